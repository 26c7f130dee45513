import PyProof.Rows.All
import Wide.All
import OpenK.AllK
import Wide.FinOn
import HandS.ForMost
import HandS.Wide
import HandS.IsInst
import HandS.Defaults
import HandS.Codes
import HandS.Style
import PyProof.ReprRoads
import PyProof.ReprLen
import HandS.Zip
import HandS.NoneIn
import HandS.TupAny
import HandS.SortRule
import PySem.Challenge.RW_unlikepairs_k14_whole_pairs_and_waiting
set_option Elab.async false
set_option linter.all false
set_option maxRecDepth 100000
set_option maxHeartbeats 4000000
namespace UP
open PySem PySem.Spec PyProof.Rows L2

/-! ### a def that keeps a promise, by its name -/
section
variable (P : Program) (w : World) (K : PySem.W.Frag) (mg : Str → Option Value) (base : Heap)
def Has (k : Nat) (x : Str) (ps : List Str) (sp : Sp) : Prop :=
  ∃ f fd, mg x = some (.ref f) ∧ PySem.W.keepIn K (.ref f) = true ∧ Binds K fd ps [] ∧ FnOk P w K mg base CX0 k f fd ps sp
def Df (x : Str) (st : Stmt) : Prop := ∃ f fd, mg x = some (.ref f) ∧ Fun K x x st f fd
end
theorem Df.of {K : PySem.W.Frag} {mg : Str → Option Value} {x : Str} {st : Stmt} {f : Addr} {fd : FuncData} (g : mg x = some (.ref f)) (F : Fun K x x st f fd) : Df K mg x st := ⟨f, fd, g, F⟩
section
variable {P : Program} {w : World} {K : PySem.W.Frag} {mg : Str → Option Value} {base : Heap}
theorem has_of {x : Str} {st : Stmt} {ps N : List Str} {k : Nat} {sp : Sp} (D : Df K mg x st) (S : FnScope N ps (defScope st))
    (hb : ∀ (kV doc pm : Value) (an : Option Addr) (cdv ct : Value) (us : List Value), us.length = ps.length → bindArgs (PySem.W.fnOf x x (defArgs st) (defBody st) (defScope st) .none kV doc pm an cdv ct) ⟨us, []⟩ = pure (ps.zip us))
    (len : ∀ vs H Q E, sp vs H Q E → vs.length = ps.length)
    (body : ∀ (f : Addr) (cdv : Value) (A : Around) (outer : List Env) (s : Shared) (H : Hp) (vs : List V) (Q : VK) (E : XK), Room k (A.deeper (envOfC x (defScope st) s.heap.objs.size f cdv)) → sp vs H Q E →
      ∃ t, PSs (cxOf CX0 P w K mg base N x (defScope st) f cdv A outer s H E).nox (defBody st) t ∧ t { nx := fun _ H' => Q .non H', rt := Q } (start N vs) H) :
    Has P w K mg base (k + 1) x ps sp := by
  obtain ⟨f, fd, g, F⟩ := D
  exact ⟨f, fd, g, F.kp, F.binds hb, F.ok S len fun cdv A outer s H vs Q E hr h => body f cdv A outer s H vs Q E hr h⟩
theorem Has.weak {x : Str} {ps : List Str} {k : Nat} {sp sp' : Sp} (h : Has P w K mg base k x ps sp) (e : sp = sp') : Has P w K mg base k x ps sp' := e ▸ h
end
section
variable {X : Cx}
theorem pe_callH {k : Nat} {x : Str} {ps : List Str} {sp : Sp} {p pos : Pos} {e : Expr} {es : List Expr} {t : TA} (G : Has X.prog X.w X.K X.mg X.base k x ps sp) (hr : Room k X.A) (hg : Gl X x) (ha : PA X (e :: es) t)
    (hdb : (x == ("__debug__" : Str)) = false := by decide) (he : starEach (e :: es) X.env = (false, eval e X.env) :: starEach es X.env := by rfl) (hpl : (backTo pos (starEach es X.env)).any (·.1) = false := by rfl) :
    PE X (.Call (.Name x p) (e :: es) [] pos) (tCall sp [] E0 t) := by
  obtain ⟨f, fd, g, kp, b, F⟩ := G
  exact pe_call F hr hg g kp b .nil pass0 ha hdb he hpl
theorem pe_glI {x : Str} {i : Int} {pos : Pos} (h : ∃ t, X.mg x = some (.int i t)) (hg : Gl X x) (hd : (x == ("__debug__" : Str)) = false := by decide) : PE X (.Name x pos) (tC (.int i)) := by
  obtain ⟨t, h⟩ := h
  exact pe_glob hg h ⟨t, rfl⟩ hd
end

/-! ### heaps -/
theorem same_upd {H : Hp} {p : Addr} {o : HO} (h : H p = none) : Same H (upd H p o) := fun b x e => by
  rw [upd_ne (ne_of_none e h)]
  exact e
/-- all but the object at sp is as it was -/
def But (sp : Addr) (H H' : Hp) : Prop := ∀ b o, b ≠ sp → H b = some o → H' b = some o
theorem Same.but {sp : Addr} {H H' : Hp} (h : Same H H') : But sp H H' := fun b o _ e => h b o e
theorem But.trans {sp : Addr} {H H1 H2 : Hp} (a : But sp H H1) (b : But sp H1 H2) : But sp H H2 := fun c o n e => b c o n (a c o n e)
theorem But.refl {sp : Addr} {H : Hp} : But sp H H := fun _ _ _ e => e
theorem but_upd {sp : Addr} {H : Hp} {o : HO} : But sp H (upd H sp o) := fun b x n e => by
  rw [upd_ne n]
  exact e
theorem small {n : Nat} (h : n ≤ 1000000) : n < sizeLine := Nat.lt_of_le_of_lt h (by decide)
theorem smallE {n : Nat} (h : n ≤ 1000000) : n ≤ sizeLine := Nat.le_of_lt (small h)

/-! ### runs and states -/
abbrev Run := Str × Int
def RunV (H : Hp) (v : V) (r : Run) : Prop := ∃ t, v = .ref t ∧ H t = some (.tup [.str r.1, .int r.2])
def Runs (H : Hp) (a : Addr) (rs : List Run) : Prop := ∃ xs, H a = some (.lst xs) ∧ Paired (RunV H) xs rs
def StV (H : Hp) (v : V) : Option Run → Prop
  | none => v = .non
  | some r => RunV H v r
theorem RunV.same {H H' : Hp} {v : V} {r : Run} (s : Same H H') (h : RunV H v r) : RunV H' v r := by
  obtain ⟨t, e, h⟩ := h
  exact ⟨t, e, s _ _ h⟩
theorem Paired.len {α β : Type} {F : α → β → Prop} : ∀ {l₁ : List α} {l₂ : List β}, Paired F l₁ l₂ → l₁.length = l₂.length
  | _, _, .nil => rfl
  | _, _, .cons _ t => congrArg Nat.succ (Paired.len t)
theorem Paired.at {α β : Type} {F : α → β → Prop} : ∀ {l₁ : List α} {l₂ : List β} {i : Nat} {x : α}, Paired F l₁ l₂ → l₁[i]? = some x → ∃ y, l₂[i]? = some y ∧ F x y
  | _, _, _, _, .nil, h => by simp at h
  | _, _, 0, _, .cons h _, e => by
    simp only [List.getElem?_cons_zero, Option.some.injEq] at e
    subst e
    exact ⟨_, by simp, h⟩
  | _, _, i + 1, _, .cons _ t, e => by
    simp only [List.getElem?_cons_succ] at e ⊢
    exact Paired.at t e
theorem Paired.at' {α β : Type} {F : α → β → Prop} : ∀ {l₁ : List α} {l₂ : List β} {i : Nat} {y : β}, Paired F l₁ l₂ → l₂[i]? = some y → ∃ x, l₁[i]? = some x ∧ F x y
  | _, _, _, _, .nil, h => by simp at h
  | _, _, 0, _, .cons h _, e => by
    simp only [List.getElem?_cons_zero, Option.some.injEq] at e
    subst e
    exact ⟨_, by simp, h⟩
  | _, _, i + 1, _, .cons _ t, e => by
    simp only [List.getElem?_cons_succ] at e ⊢
    exact Paired.at' t e
theorem Paired.imp {α β : Type} {F G : α → β → Prop} (f : ∀ a b, F a b → G a b) : ∀ {l₁ : List α} {l₂ : List β}, Paired F l₁ l₂ → Paired G l₁ l₂
  | _, _, .nil => .nil
  | _, _, .cons h t => .cons (f _ _ h) (Paired.imp f t)
theorem Paired.app {α β : Type} {F : α → β → Prop} : ∀ {l₁ m₁ : List α} {l₂ m₂ : List β}, Paired F l₁ l₂ → Paired F m₁ m₂ → Paired F (l₁ ++ m₁) (l₂ ++ m₂)
  | _, _, _, _, .nil, h => h
  | _, _, _, _, .cons h t, k => .cons h (Paired.app t k)
theorem Paired.dropp {α β : Type} {F : α → β → Prop} : ∀ {l₁ : List α} {l₂ : List β} (n : Nat), Paired F l₁ l₂ → Paired F (l₁.drop n) (l₂.drop n)
  | _, _, 0, h => h
  | _, _, n + 1, .nil => .nil
  | _, _, n + 1, .cons _ t => by
    simp only [List.drop_succ_cons]
    exact Paired.dropp n t
theorem Paired.takep {α β : Type} {F : α → β → Prop} : ∀ {l₁ : List α} {l₂ : List β} (n : Nat), Paired F l₁ l₂ → Paired F (l₁.take n) (l₂.take n)
  | _, _, 0, h => by simp only [List.take_zero]; exact .nil
  | _, _, n + 1, .nil => .nil
  | _, _, n + 1, .cons h t => by
    simp only [List.take_succ_cons]
    exact .cons h (Paired.takep n t)
theorem Runs.same {H H' : Hp} {a : Addr} {rs : List Run} (s : Same H H') (h : Runs H a rs) : Runs H' a rs := by
  obtain ⟨xs, e, p⟩ := h
  exact ⟨xs, s _ _ e, Paired.imp (fun _ _ => RunV.same s) p⟩
theorem StV.same {H H' : Hp} {v : V} {st : Option Run} (s : Same H H') (h : StV H v st) : StV H' v st := by
  cases st with
  | none => exact h
  | some r => exact RunV.same s h
/-- the spring: a list of three ints -/
def Spr (H : Hp) (sp : Addr) : Prop := ∃ d s c : Int, H sp = some (.lst [.int d, .int s, .int c]) ∧ 0 ≤ d ∧ d.natAbs < 2 ^ 20000 ∧ 0 ≤ s ∧ s < 2305843009213693951
theorem RunV.but {H H' : Hp} {sp : Addr} {v : V} {r : Run} (z : Spr H sp) (s : But sp H H') (h : RunV H v r) : RunV H' v r := by
  obtain ⟨t, e, h⟩ := h
  obtain ⟨_, _, _, hs, _⟩ := z
  exact ⟨t, e, s _ _ (ne_of h hs (by intro q; cases q)) h⟩
theorem Runs.ne {H : Hp} {sp a : Addr} {rs : List Run} (z : Spr H sp) (h : Runs H a rs) : a ≠ sp := by
  obtain ⟨xs, e, p⟩ := h
  obtain ⟨d, s, c, hs, _⟩ := z
  refine ne_of e hs fun q => ?_
  have q := HO.lst.inj q
  subst q
  cases p with
  | cons h _ =>
    obtain ⟨t, e, _⟩ := h
    cases e
theorem Runs.but {H H' : Hp} {sp a : Addr} {rs : List Run} (z : Spr H sp) (s : But sp H H') (h : Runs H a rs) : Runs H' a rs := by
  have n := Runs.ne z h
  obtain ⟨xs, e, p⟩ := h
  exact ⟨xs, s _ _ n e, Paired.imp (fun _ _ => RunV.but z s) p⟩
theorem StV.but {H H' : Hp} {sp : Addr} {v : V} {st : Option Run} (z : Spr H sp) (s : But sp H H') (h : StV H v st) : StV H' v st := by
  cases st with
  | none => exact h
  | some r => exact RunV.but z s h
theorem Spr.same {H H' : Hp} {sp : Addr} (z : Spr H sp) (s : Same H H') : Spr H' sp := by
  obtain ⟨d, e, c, hs, r⟩ := z
  exact ⟨d, e, c, s _ _ hs, r⟩
def KindOk (s : Str) : Prop := 1 ≤ s.length ∧ s.length ≤ 8 ∧ ∀ c ∈ s.cps.toList, 97 ≤ c ∧ c ≤ 122
def RunOk (r : Run) : Prop := KindOk r.1 ∧ 1 ≤ r.2 ∧ r.2 ≤ 1000000000000000000000000000000
def Alt (rs : List Run) : Prop := ∀ (i : Nat) (x y : Run), rs[i]? = some x → rs[i + 1]? = some y → x.1 ≠ y.1
def SeqOk (rs : List Run) : Prop := rs.length ≤ 400 ∧ (∀ r ∈ rs, RunOk r) ∧ Alt rs
end UP

set_option Elab.async false
set_option linter.all false
set_option maxRecDepth 100000
set_option maxHeartbeats 4000000
namespace UP
open PySem PySem.Spec PyProof.Rows L2
/-! ### repr of plain data, where no other repr is under way -/
def rRepr (K : PySem.W.Frag) : List V → Hp → VK → Prop := fun xs H Q => ∃ (a : Addr) (d : PyData), xs = [.ref a] ∧ Dp K H (.ref a) d ∧ d.showable = true ∧ SeqAt.shaped d = true ∧ d.shown.length ≤ sizeLine ∧ Q (.str d.shown) H
theorem call_reprD {X : Cx} (hg : X.A.guards = some []) (hu : X.A.units + 70 < cLine) : CallR X (.builtin "repr") (rRepr X.K) := by
  intro pins s σ H xs us Q I r h
  obtain ⟨a, d, rfl, dp, sh, sp, sz, q⟩ := h
  obtain ⟨u, rfl, ru⟩ := vals1 r
  cases (show u = Value.ref a from ru)
  obtain ⟨as, rd⟩ := Dp.reads I d (.ref a) (.ref a) dp rfl
  have dd := SeqAt.depth_of_shaped sp
  refine repr_of_reads' rd sh (PyData.noDict_hsm (PyData.hasDict_of_canLay d (SeqAt.canLay_of_shaped sp))) hg (by omega) (fun _ _ e => e) (fun h' u tk hk => ?_) sz
  exact ⟨.str d.shown, H, I.kept (t' := tk) hk, ⟨u, rfl⟩, q⟩
/-! ### the law's own call, around it nothing -/
structure FnC (P : Program) (w : World) (K : PySem.W.Frag) (mg : Str → Option Value) (base : Heap) (f : Addr) (fd : FuncData) (ps : List Str) (sp : Sp) : Prop where
  go : ∀ (out : List Env) (s : Shared) (H : Hp) (args : Args) (us : List Value) (vs : List V) (Q : VK) (E : XK), Env0 P w K mg base callerA out s H → BindsTo s fd args (ps.zip us) → Vals vs us → sp vs H Q E →
    codeAny (model P w) callerA (.call (.ref f) args) (CR CX0 out P w H s Q E) s
theorem callerA_room : Room 8 callerA := ⟨rfl, by decide, by decide⟩
section
variable {P : Program} {w : World} {K : PySem.W.Frag} {mg : Str → Option Value} {base : Heap}
theorem fnC_of {x : Str} {st : Stmt} {f : Addr} {fd : FuncData} {ps N : List Str} {sp : Sp} (F : Fun K x x st f fd) (S : FnScope N ps (defScope st)) (len : ∀ vs H Q E, sp vs H Q E → vs.length = ps.length)
    (body : ∀ (cdv : Value) (out : List Env) (s : Shared) (H : Hp) (vs : List V) (Q : VK) (E : XK), Room 7 (callerA.deeper (envOfC x (defScope st) s.heap.objs.size f cdv)) → sp vs H Q E →
      ∃ t, PSs (cxOf CX0 P w K mg base N x (defScope st) f cdv callerA out s H E).nox (defBody st) t ∧ t { nx := fun _ H' => Q .non H', rt := Q } (start N vs) H) : FnC P w K mg base f fd ps sp := by
  obtain ⟨oc, od, kV, doc, pm, an, cdv, ct, osl, rfl, lk, hcd⟩ := F.ex
  refine ⟨fun out s H args us vs Q E e0 hb rv hsp => ?_⟩
  have inS : K.In s.heap := e0.mod.kin.keeps fun b o z => (e0.bs b o z).1
  have noL : s.heap.NoLimit := e0.mod.nolimit.keeps fun b o z => (e0.bs b o z).1
  have kinds : ∀ y ∈ ps.zip us, (defScope st).names.lookup y.1 = some .local ∨ ((defScope st).names.lookup y.1 = some .cell ∧ ((cellsFrom (s.heap.objs.size + 1) (defScope st).names []).lookup y.1).isSome = true) := by
    intro y hy
    rcases S.par y.1 (List.of_mem_zip (a := y.1) (b := y.2) hy).1 with z | z
    · exact Or.inl z
    · exact Or.inr ⟨z, PySem.W.cellsFrom_some _ _ _ (Or.inl z)⟩
  refine codeAny_call_function callerA_room.depth (inS _ _ lk) rfl S.co S.gen rfl (PySem.W.codeRec_of inS hcd) (hb _ _ _ _ ?_)
  refine wpAny_newFunctionEnv_cells S.kind kinds fun env he s1 inC => ?_
  subst he
  refine ⟨noL.keeps inC.toInCall.keep, codeAny_func ?_⟩
  obtain ⟨t, ht0, hq⟩ := body cdv out s H vs Q E (callerA_room.deeper _) hsp
  have ht := PSs.nox ht0
  have I0 : Inv (cxOf CX0 P w K mg base N x (defScope st) f cdv callerA out s H E) [] (start N vs) H s1 := inv_start S rfl e0 (len _ _ _ _ hsp) rv inC
  refine wpAny_mono (ht.run [] s1 (start N vs) H _ I0 hq) (fun fl s2 h2 => ?_) fun _ _ z => z
  cases fl with
  | next =>
    obtain ⟨σ2, H2, J, q2⟩ := h2
    exact ⟨V.non, H2, J.os, J.bare, J.base, J.hok, rfl, q2⟩
  | ret u =>
    obtain ⟨v, σ2, H2, J, rv2, q2⟩ := h2
    exact ⟨v, H2, J.os, J.bare, J.base, J.hok, rv2, q2⟩
  | brk =>
    obtain ⟨_, _, _, z⟩ := h2
    exact z.elim
  | cont =>
    obtain ⟨_, _, _, z⟩ := h2
    exact z.elim
end
/-- the heap that holds the script alone, locked -/
def oneH (a : Addr) (o : Obj) (xs : List V) : Hp := fun b => if b = a then some (.frz o (.lst xs)) else none
theorem run_law {P : Program} {w : World} {K : PySem.W.Frag} {mg mb : Str → Option Value} {fa a : Addr} {fd : FuncData} {x : Str} {sp : Sp} {s : Shared} {vs : List Value} {ns : List Int}
    (kx : K.In s.heap) (gns : s.heap.Ns mainGlobals mg) (bns : s.heap.Ns builtinsNs mb) (bb : ∀ y : Str, y ≠ "__name__" → mb y = bootBuiltins y) (nl : s.heap.NoLimit) (gens : s.gens = #[])
    (ob : s.heap.get? a = some { cls := .type "list", data := .seq vs.toArray }) (hin : IntsAre vs ns) (len : ns.length ≤ sizeLine) (F : ∀ base : Heap, K.In base → base.Ns mainGlobals mg → FnC P w K mg base fa fd [x] sp)
    (bind : ∀ (s : Shared) (u : Value), BindsTo s fd ⟨[u], []⟩ [(x, u)]) (hsp : ∀ H : Hp, SqL K H a (ns.map V.int) → sp [.ref a] H (fun v _ => v = .bl true) fun _ _ _ => False) :
    codeAny (model P w) callerA (.call (.ref fa) ⟨[.ref a], []⟩) (fun r s' => r = .ok (.ret (.bool true)) ∧ OldK s.heap s'.heap ∧ s'.os = s.os ∧ AllBare s'.gens) s := by
  have rel := vals_ints hin
  have step : ∀ H : Hp, (H = (fun _ => none) ∨ (H = oneH a { cls := .type "list", data := .seq vs.toArray } (ns.map V.int) ∧ K.lookup a = none)) → SqL K H a (ns.map V.int) → HOk P w H s.heap →
      codeAny (model P w) callerA (.call (.ref fa) ⟨[.ref a], []⟩) (fun r s' => r = .ok (.ret (.bool true)) ∧ OldK s.heap s'.heap ∧ s'.os = s.os ∧ AllBare s'.gens) s := by
    intro H hH hS hok
    have only : ∀ b u, H b = some u → b = a ∧ u = .frz { cls := .type "list", data := .seq vs.toArray } (.lst (ns.map V.int)) ∧ K.lookup a = none := by
      intro b u e
      rcases hH with z | ⟨z, z2⟩
      · rw [z] at e
        cases e
      · rw [z] at e
        by_cases hb : b = a
        · have e := (if_pos hb).symm.trans e
          cases e
          exact ⟨hb, rfl, z2⟩
        · have e := (if_neg hb).symm.trans e
          cases e
    have free : ∀ {b : Addr} {o : Obj}, s.heap.get? b = some o → (b = a → False) → (hidT s.heap H).get? b = some o := by
      intro b o e n
      refine hidT_get e ?_
      cases q : H b with
      | none => rfl
      | some u => exact (n (only b u q).1).elim
    have nss : ∀ {b : Addr} {m : Str → Option Value}, s.heap.Ns b m → (hidT s.heap H).Ns b m := by
      intro b m ⟨o, es, ep, e, d, r⟩
      refine ⟨o, es, ep, free e fun z => ?_, d, r⟩
      subst z
      rw [ob] at e
      cases e
      cases d
    have kb : K.In (hidT s.heap H) := by
      intro b o e
      refine hidT_get (kx b o e) ?_
      cases q : H b with
      | none => rfl
      | some u =>
        obtain ⟨z1, _, z2⟩ := only b u q
        rw [z1, z2] at e
        cases e
    have md : Mod K mg (hidT s.heap H) := ⟨kb, nss gns, ⟨mb, nss bns, bb⟩, by obtain ⟨mc, h1, h2⟩ := nl; exact ⟨mc, nss h1, h2⟩⟩
    have env : Env0 P w K mg (hidT s.heap H) callerA [] s H := ⟨rfl, md, fun b o e => of_hidT e, Nat.le_of_eq (hidT_size _ _), trivial, (fun b hb => by cases hb), hok, .of_eq gens⟩
    refine codeAny_mono ((F _ kb (nss gns)).go [] s H ⟨[.ref a], []⟩ [.ref a] [.ref a] _ _ env (bind s (.ref a)) (.cons rfl .nil) (hsp H hS)) fun r s' h => ?_
    cases r with
    | error e => exact h.elim
    | ok fl =>
      cases fl with
      | next => exact h.elim
      | brk => exact h.elim
      | cont => exact h.elim
      | ret u =>
        obtain ⟨v, H', o1, o2, un, hok', rv, q⟩ := h
        have q : v = .bl true := q
        subst q
        cases (show u = Value.bool true from rv)
        refine ⟨rfl, OldK.of_keep fun b o e => ?_, o1, o2⟩
        cases q : H b with
        | none => exact un.keep b o e q (fun z => by cases z) (fun z => by cases z)
        | some u =>
          obtain ⟨_, z, _⟩ := only b u q
          subst z
          obtain ⟨e1, _⟩ := hok b _ q
          obtain ⟨e2, _⟩ := hok' b _ (un.frzs b _ _ q)
          rw [e] at e1
          cases e1
          exact e2
  cases hk : K.lookup a with
  | some o =>
    have e := kx a o hk
    rw [ob] at e
    cases e
    refine step (fun _ => none) (.inl rfl) (.inr ⟨_, vs.toArray, _, hk, rfl, rfl, rfl, ?_, by simpa using rel⟩) fun b u z => by cases z
    rw [List.size_toArray, hin.length]
    exact len
  | none =>
    have at_a : oneH a { cls := .type "list", data := .seq vs.toArray } (ns.map V.int) a = some (.frz { cls := .type "list", data := .seq vs.toArray } (.lst (ns.map V.int))) := if_pos rfl
    refine step _ (.inr ⟨rfl, hk⟩) (.inl (.inr ⟨_, at_a⟩)) fun b u z => ?_
    by_cases hb : b = a
    · subst hb
      rw [at_a] at z
      cases z
      exact ⟨ob, by rw [List.length_map]; exact len, vs, _, rel, ob⟩
    · have z := (if_neg hb).symm.trans z
      cases z
theorem walkC {l : PySem.W.OpenLaw} {n : Nat} {q : Program} {loose : List Str} {XP : (Str → Option Value) → Heap → Prop} {YP : World → Heap → Prop} {d : DefRec} {K : Params → PySem.W.Frag} {sp : World → Sp} {x : Str}
    (hn : l.most = some n) (n2 : n ≤ sizeLine) (df : d.params.defaults = []) (hY : ∀ (w : World) (h : Heap), YP w h → (K w.params).In h)
    (F : ∀ (w : World) (mg : Str → Option Value) (fa : Addr) (h : Heap), (K w.params).In h → h.Ns mainGlobals mg → mg d.name = some (.ref fa) →
      ∃ fd : FuncData, (∀ (s : Shared) (u : Value), BindsTo s fd ⟨[u], []⟩ [(x, u)]) ∧ ∀ base : Heap, (K w.params).In base → base.Ns mainGlobals mg → FnC l.prog w (K w.params) mg base fa fd [x] (sp w))
    (hsp : ∀ (w : World) (H : Hp) (a : Addr) (ns : List Int), ns.length ≤ n → SqL (K w.params) H a (ns.map V.int) → sp w [.ref a] H (fun v _ => v = .bl true) fun _ _ _ => False) :
    PySem.W.WalkO q loose XP YP l.row.toRowW d [] (fun f vs => PySem.call f vs) := by
  refine Att.attach_call hn df fun w s₀ s mg mb fa o pm cd doc a vs ns G Y ho hd hcd hmg hobj hints hlen hg => ?_
  have kx := hY w _ Y
  obtain ⟨fd, hb, hF⟩ := F w mg fa _ kx G.T.g hmg
  exact run_law kx G.T.g G.T.b G.T.builtins G.T.nolimit hg hobj hints (Nat.le_trans hlen n2) hF hb fun H hS => hsp w H a ns hlen hS
end UP

set_option Elab.async false
set_option linter.all false
set_option maxRecDepth 100000
set_option maxHeartbeats 4000000
namespace UP
open PySem PySem.Spec PyProof.Rows L2
/-! ### lists or tuples -/
def Sq2 (H : Hp) (a : Addr) (xs : List V) : Prop := H a = some (.lst xs) ∨ H a = some (.tup xs)
theorem Sq2.same {H H' : Hp} {a : Addr} {xs : List V} (s : Same H H') (h : Sq2 H a xs) : Sq2 H' a xs := h.elim (fun z => .inl (s _ _ z)) (fun z => .inr (s _ _ z))
/-- a walk over the items xs, from the heap H on -/
structure Wk (J : It) (H : Hp) (xs : List V) : Prop where
  go : ∀ i H', Same H H' → i < xs.length → J.go i H'
  stop : ∀ H', Same H H' → J.stop xs.length H'
  yld : ∀ i x H' H'', Same H H' → J.yld i H' x H'' → H'' = H' ∧ xs[i]? = some x
theorem wk_list {K : PySem.W.Frag} {H : Hp} {a : Addr} {xs : List V} (h : H a = some (.lst xs)) : Wk (Itl K a) H xs :=
  ⟨fun i H' s hi => ⟨xs, xs[i], .of (s _ _ h), List.getElem?_eq_getElem hi⟩, fun H' s => ⟨xs, .of (s _ _ h), Nat.le_refl _⟩, fun i x H' H'' s y => ⟨y.1, y.2 xs (.of (s _ _ h))⟩⟩
theorem wk_tup {K : PySem.W.Frag} {H : Hp} {a : Addr} {xs : List V} (h : H a = some (.tup xs)) : Wk (Itt K a) H xs :=
  ⟨fun i H' s hi => ⟨xs, xs[i], .of (s _ _ h), List.getElem?_eq_getElem hi⟩, fun H' s => ⟨xs, .of (s _ _ h), Nat.le_refl _⟩, fun i x H' H'' s y => ⟨y.1, y.2 xs (.of (s _ _ h))⟩⟩
def iSeqV (i : Nat) : TI := fun σ H R => ∃ a xs, σ[i]? = some (some (.ref a)) ∧ Sq2 H a xs ∧ ∀ J, Wk J H xs → R J H
section
variable {X : Cx}
theorem pi_seqV (i : Nat) {x : Str} {pos : Pos} {tg : Expr} (hN : X.N[i]? = some x := by rfl) (hv : Vis X.env.scope x := by first | exact Or.inl rfl | exact Or.inr (Or.inl rfl) | exact Or.inr (Or.inr rfl)) (hd : (x == ("__debug__" : Str)) = false := by decide)
    (hc : (x == ("__classdict__" : Str)) = false := by decide) : PI X tg (.Name x pos) (iSeqV i) := by
  refine ⟨fun pins s σ H R I hw => ?_⟩
  obtain ⟨a, xs, e, h, k⟩ := hw
  rcases h with h | h
  · exact (pi_list (pe_var hN hv hd hc)).run pins s σ H R I ⟨_, e, a, rfl, ⟨xs, .of h⟩, k _ (wk_list h)⟩
  · exact (pi_tup (pe_var hN hv hd hc)).run pins s σ H R I ⟨_, e, a, rfl, ⟨xs, .of h⟩, k _ (wk_tup h)⟩
def gAny (n : Nat) (t : TGs) : TG := fun v σ H Q => ∃ a xs, v = .ref a ∧ Sq2 H a xs ∧ xs.length = n ∧ t xs σ H Q
theorem pg_any {es : List Expr} {k n : Nat} {t : TGs} {pos : Pos} (hc : X.calm = true) (h : PGs X es t) (hn : (assignEach es X.env).length = n := by rfl) (hst : (assignEach es X.env).findIdx? (fun z => z.1) = none := by rfl) : PG X (.Tuple es k pos) (gAny n t) := by
  refine ⟨fun pins s σ H v u Q I r hw => ?_⟩
  obtain ⟨a, xs, e, hx, hl, hw⟩ := hw
  rcases hx with z | z
  · exact (pg_unl hc h hn hst).run pins s σ H v u Q I r ⟨a, xs, e, .of z, hl, hw⟩
  · exact (pg_tup hc h hn hst).run pins s σ H v u Q I r ⟨a, xs, e, .of z, hl, hw⟩
/-- zip(x, x[1:]) -/
structure WkZ (J : It) (H : Hp) (xs : List V) : Prop where
  go : ∀ i H', Same H H' → i + 1 < xs.length → J.go i H'
  stop : ∀ H', Same H H' → J.stop (xs.length - 1) H'
  yld : ∀ i x H' H'', Same H H' → J.yld i H' x H'' → ∃ T x1 x2, x = .ref T ∧ H' T = none ∧ H'' = upd H' T (.tup [x1, x2]) ∧ xs[i]? = some x1 ∧ (i + 1 < xs.length → xs[i + 1]? = some x2)
def iZip1 (i : Nat) : TI := fun σ H R => ∃ a xs, σ[i]? = some (some (.ref a)) ∧ Sq2 H a xs ∧ ∀ J H', Same H H' → WkZ J H' xs → R J H'
theorem cutt_one (xs : List V) : cutV xs (some 1) none = xs.drop 1 := by
  have e : HT.sIx xs.length 0 (some 1) = min 1 xs.length := HT.sIx_nat xs.length 0 1
  unfold cutV
  rw [e, HT.sIx_none]
  cases xs with
  | nil => rfl
  | cons x r =>
    have e1 : min 1 (x :: r).length = 1 := by simp only [List.length_cons]; omega
    rw [e1]
    simp
theorem pi_zip1 {i : Nat} {tg it : Expr} {tl th : TO} (h : PI X tg it (RZ.iZipA X.K (tCons (tVar i) (tCons (tSl (fun x lo hi H Q => rSlL X.K x lo hi H Q ∨ rSlA X.K x lo hi H Q) (tVar i) tl th) tNil))))
    (h1 : ∀ (σ : L2.St) (H : Hp) (Q : Option Int → Hp → Prop), Q (some 1) H → tl σ H Q) (h2 : ∀ (σ : L2.St) (H : Hp) (Q : Option Int → Hp → Prop), Q none H → th σ H Q) : PI X tg it (iZip1 i) := by
  refine ⟨fun pins s σ H R I hw => h.run pins s σ H R I ?_⟩
  obtain ⟨a, xs, e, hx, k⟩ := hw
  refine ⟨_, e, _, e, h1 σ H _ (h2 σ H _ ?_)⟩
  have gn : ∀ j : Nat, (xs.drop 1)[j]? = xs[j + 1]? := fun j => by rw [List.getElem?_drop, Nat.add_comm 1 j]
  rcases hx with hx | hx
  · refine .inl ⟨a, xs, rfl, .of hx, fun c nc => ?_⟩
    have sc : Same H (upd H c (.lst (cutV xs (some 1) none))) := fun b o z => by rw [upd_ne (ne_of_none z nc)]; exact z
    have hc : (upd H c (.lst (cutV xs (some 1) none))) c = some (.lst (xs.drop 1)) := by rw [upd_same, cutt_one]
    refine ⟨a, c, xs, xs.drop 1, rfl, .inl ⟨.of (sc _ _ hx), .of hc, k _ _ sc ⟨fun j H' sj hj => ?_, fun H' sj => ?_, fun j x H' H'' sj y => ?_⟩⟩⟩
    · exact ⟨xs, xs.drop 1, xs[j], xs[j + 1], .of (sj _ _ (sc _ _ hx)), .of (sj _ _ hc), List.getElem?_eq_getElem (by omega), by rw [gn]; exact List.getElem?_eq_getElem hj⟩
    · exact ⟨xs, xs.drop 1, .of (sj _ _ (sc _ _ hx)), .of (sj _ _ hc), .inr (by rw [List.length_drop]; exact Nat.le_refl _)⟩
    · obtain ⟨T, x1, x2, e1, e2, e3, f1, f2⟩ := y
      exact ⟨T, x1, x2, e1, e2, e3, f1 xs (.of (sj _ _ (sc _ _ hx))), fun _ => by rw [← gn]; exact f2 _ (.of (sj _ _ hc))⟩
  · refine .inr ⟨a, xs, rfl, .of hx, fun z => ?_, fun z c nc => ?_⟩
    · have lz : xs.length = 0 := by
        have z1 := z.1
        rw [show HT.sIx xs.length 0 (some 1) = min 1 xs.length from HT.sIx_nat xs.length 0 1] at z1
        omega
      refine ⟨a, a, xs, xs, rfl, .inr ⟨.of hx, .of hx, k _ _ (Same.refl _) ⟨fun j H' sj hj => by omega, fun H' sj => ⟨xs, xs, .of (sj _ _ hx), .of (sj _ _ hx), .inl (by omega)⟩, fun j x H' H'' sj y => ?_⟩⟩⟩
      obtain ⟨T, x1, x2, e1, e2, e3, f1, f2⟩ := y
      exact ⟨T, x1, x2, e1, e2, e3, f1 xs (.of (sj _ _ hx)), fun hj => by omega⟩
    · have sc : Same H (upd H c (.tup (cutV xs (some 1) none))) := fun b o z => by rw [upd_ne (ne_of_none z nc)]; exact z
      have hc : (upd H c (.tup (cutV xs (some 1) none))) c = some (.tup (xs.drop 1)) := by rw [upd_same, cutt_one]
      refine ⟨a, c, xs, xs.drop 1, rfl, .inr ⟨.of (sc _ _ hx), .of hc, k _ _ sc ⟨fun j H' sj hj => ?_, fun H' sj => ?_, fun j x H' H'' sj y => ?_⟩⟩⟩
      · exact ⟨xs, xs.drop 1, xs[j], xs[j + 1], .of (sj _ _ (sc _ _ hx)), .of (sj _ _ hc), List.getElem?_eq_getElem (by omega), by rw [gn]; exact List.getElem?_eq_getElem hj⟩
      · exact ⟨xs, xs.drop 1, .of (sj _ _ (sc _ _ hx)), .of (sj _ _ hc), .inr (by rw [List.length_drop]; exact Nat.le_refl _)⟩
      · obtain ⟨T, x1, x2, e1, e2, e3, f1, f2⟩ := y
        exact ⟨T, x1, x2, e1, e2, e3, f1 xs (.of (sj _ _ (sc _ _ hx))), fun _ => by rw [← gn]; exact f2 _ (.of (sj _ _ hc))⟩
end
/-! ### runs and states, dressed -/
def RunG (H : Hp) (v : V) (r : Run) : Prop := ∃ t, v = .ref t ∧ Sq2 H t [.str r.1, .int r.2]
def RunsG (H : Hp) (v : V) (rs : List Run) : Prop := ∃ a xs, v = .ref a ∧ Sq2 H a xs ∧ Paired (RunG H) xs rs
def StG (H : Hp) (v : V) : Option Run → Prop
  | none => v = .non
  | some r => RunG H v r
theorem RunG.same {H H' : Hp} {v : V} {r : Run} (s : Same H H') (h : RunG H v r) : RunG H' v r := by
  obtain ⟨t, e, h⟩ := h
  exact ⟨t, e, h.same s⟩
theorem RunsG.same {H H' : Hp} {v : V} {rs : List Run} (s : Same H H') (h : RunsG H v rs) : RunsG H' v rs := by
  obtain ⟨a, xs, e, hx, p⟩ := h
  exact ⟨a, xs, e, hx.same s, Paired.imp (fun _ _ => RunG.same s) p⟩
theorem StG.same {H H' : Hp} {v : V} {st : Option Run} (s : Same H H') (h : StG H v st) : StG H' v st := by
  cases st with
  | none => exact h
  | some r => exact RunG.same s h
theorem RunV.dress {H : Hp} {v : V} {r : Run} (h : RunV H v r) : RunG H v r := by
  obtain ⟨t, e, h⟩ := h
  exact ⟨t, e, .inr h⟩
theorem Runs.dress {H : Hp} {a : Addr} {rs : List Run} (h : Runs H a rs) : RunsG H (.ref a) rs := by
  obtain ⟨xs, hx, p⟩ := h
  exact ⟨a, xs, rfl, .inl hx, Paired.imp (fun _ _ => RunV.dress) p⟩
theorem StV.dress {H : Hp} {v : V} {st : Option Run} (h : StV H v st) : StG H v st := by
  cases st with
  | none => exact h
  | some r => exact RunV.dress h
theorem Sq2.but {H H' : Hp} {sp a : Addr} {xs : List V} (z : Spr H sp) (s : But sp H H') (h : Sq2 H a xs) (n : ∀ d e f, xs ≠ [.int d, .int e, .int f]) : Sq2 H' a xs := by
  obtain ⟨d, e, f, hs, _⟩ := z
  rcases h with h | h
  · exact .inl (s _ _ (ne_of h hs fun q => n d e f (HO.lst.inj q)) h)
  · exact .inr (s _ _ (ne_of h hs fun q => by cases q) h)
theorem RunG.but {H H' : Hp} {sp : Addr} {v : V} {r : Run} (z : Spr H sp) (s : But sp H H') (h : RunG H v r) : RunG H' v r := by
  obtain ⟨t, e, h⟩ := h
  exact ⟨t, e, h.but z s fun _ _ _ q => by cases q⟩
theorem RunsG.but {H H' : Hp} {sp : Addr} {v : V} {rs : List Run} (z : Spr H sp) (s : But sp H H') (h : RunsG H v rs) : RunsG H' v rs := by
  obtain ⟨a, xs, e, hx, p⟩ := h
  refine ⟨a, xs, e, hx.but z s fun d _ _ q => ?_, Paired.imp (fun _ _ => RunG.but z s) p⟩
  subst q
  cases p with
  | cons h _ =>
    obtain ⟨_, e, _⟩ := h
    cases e
theorem StG.but {H H' : Hp} {sp : Addr} {v : V} {st : Option Run} (z : Spr H sp) (s : But sp H H') (h : StG H v st) : StG H' v st := by
  cases st with
  | none => exact h
  | some r => exact RunG.but z s h
end UP

set_option Elab.async false
set_option linter.all false
set_option maxRecDepth 100000
set_option maxHeartbeats 4000000
namespace UP
open PySem PySem.Spec PyProof.Rows L2
def topS (i : Nat) : Stmt := PySem.Challenge.pw_unlikepairs_k14_whole_pairs_and_waiting.main.body.getD i (.Pass ⟨0, 0, 0, 0⟩)
structure Tx (mg : Str → Option Value) : Prop where
  n_isinstance : mg "isinstance" = none
  n_int : mg "int" = none
  n_bool : mg "bool" = none
  n_str : mg "str" = none
  n_list : mg "list" = none
  n_tuple : mg "tuple" = none
  n_len : mg "len" = none
  n_all : mg "all" = none
  n_zip : mg "zip" = none
  n_sum : mg "sum" = none
  n_min : mg "min" = none
  n_max : mg "max" = none
  n_abs : mg "abs" = none
  n_range : mg "range" = none
  n_repr : mg "repr" = none
  n_enumerate : mg "enumerate" = none
  n_any : mg "any" = none
  n_dict : mg "dict" = none
  n_sorted : mg "sorted" = none
  n_set : mg "set" = none
  n_reversed : mg "reversed" = none
  c_MAX_LETTERS : ∃ t, mg "MAX_LETTERS" = some (.int 8 t)
  c_MAX_RUNS : ∃ t, mg "MAX_RUNS" = some (.int 400 t)
  c_MAX_COUNT : ∃ t, mg "MAX_COUNT" = some (.int 1000000000000000000000000000000 t)
section
variable {P : Program} {w : World} {K : PySem.W.Frag} {mg : Str → Option Value} {base : Heap}
/-! is_whole: slots 0:value -/
abbrev s_is_whole : Stmt := topS 10
theorem sc_is_whole : FnScope ["value"] ["value"] (defScope s_is_whole) := ⟨rfl, rfl, rfl, by decide +kernel, rfl, by decide +kernel, by decide +kernel⟩
def sp_is_whole : Sp := fun vs H Q _ => ∃ n : Int, vs = [.int n] ∧ Q (.bl true) H
theorem ok_is_whole (D : Df K mg "is_whole" s_is_whole) (T : Tx mg) : Has P w K mg base 1 "is_whole" ["value"] sp_is_whole := by
  refine has_of D sc_is_whole (fun _ _ _ _ _ _ us hl => match us, hl with | [_], _ => rfl) (fun vs H Q E h => ?_) (fun f cdv A outer s H vs Q E hr h => ?_)
  · obtain ⟨n, rfl, _⟩ := h
    rfl
  · obtain ⟨n, rfl, q⟩ := h
    refine ⟨_, (pss_one (ps_ret (pe_and (pe_callB call_isi (by rfl) T.n_isinstance (by decide +kernel) (pa_cons (pv 0) (pa_cons (pe_bltn (v := .ty "int") (by rfl) T.n_int (by decide +kernel) rfl) pa_nil))) (pe_one (pe_not (pe_callB call_isi (by rfl) T.n_isinstance (by decide +kernel) (pa_cons (pv 0) (pa_cons (pe_bltn (v := .ty "bool") (by rfl) T.n_bool (by decide +kernel) rfl) pa_nil)))))))), ?_⟩
    exact ⟨_, rfl, _, _, _, _, true, rfl, .ty "int", .base (.int n), kit_ty (by decide +kernel), true, rfl, iteT ⟨_, rfl, _, _, _, _, false, rfl, .ty "bool", .base (.int n), kit_ty (by decide +kernel), false, rfl, q⟩⟩
/-! is_within: slots 0:value 1:low 2:high -/
abbrev s_is_within : Stmt := topS 11
theorem sc_is_within : FnScope ["value", "low", "high"] ["value", "low", "high"] (defScope s_is_within) := ⟨rfl, rfl, rfl, by decide +kernel, rfl, by decide +kernel, by decide +kernel⟩
def sp_is_within : Sp := fun vs H Q _ => ∃ n lo hi : Int, vs = [.int n, .int lo, .int hi] ∧ Q (.bl (decide (lo ≤ n ∧ n ≤ hi))) H
theorem ok_is_within (D : Df K mg "is_within" s_is_within) (G_is_whole : Has P w K mg base 1 "is_whole" ["value"] sp_is_whole) : Has P w K mg base 2 "is_within" ["value", "low", "high"] sp_is_within := by
  refine has_of D sc_is_within (fun _ _ _ _ _ _ us hl => match us, hl with | [_, _, _], _ => rfl) (fun vs H Q E h => ?_) (fun f cdv A outer s H vs Q E hr h => ?_)
  · obtain ⟨n, lo, hi, rfl, _⟩ := h
    rfl
  · obtain ⟨n, lo, hi, rfl, q⟩ := h
    refine ⟨_, (pss_one (ps_ret (pe_and (pe_callH G_is_whole (hr.mono (by omega)) (by rfl) (pa_cons (pv 0) pa_nil)) (pe_one (pe_chain op_le op_le (pv 1) (pv 0) (pv 2)))))), ?_⟩
    refine ⟨_, rfl, n, rfl, true, rfl, iteT ⟨_, rfl, _, rfl, _, _, rfl, rfl, _, rfl, ite2 (fun e => ?_) (fun e => ?_)⟩⟩
    · have e := of_decide_eq_true e
      refine ⟨_, rfl, _, _, rfl, rfl, ?_⟩
      show Q (.bl (decide (n ≤ hi))) H
      rw [show decide (n ≤ hi) = decide (lo ≤ n ∧ n ≤ hi) by simp [e]]
      exact q
    · have e : ¬ lo ≤ n := fun z => e (decide_eq_true z)
      show Q (.bl false) H
      rw [show false = decide (lo ≤ n ∧ n ≤ hi) by simp [e]]
      exact q
theorem kit_lst {K : PySem.W.Frag} : PySem.W.kitAny K (.type "list") [.type "list", .type "tuple"] = some true := kitAny_cons (b := true) (kit_ty (by decide +kernel)) (fun z => nomatch z) (fun _ => rfl)
theorem kit_tup {K : PySem.W.Frag} : PySem.W.kitAny K (.type "tuple") [.type "list", .type "tuple"] = some true := kitAny_cons (b := false) (kit_ty (by decide +kernel)) (fun _ => kitAny_cons (b := true) (kit_ty (by decide +kernel)) (fun z => nomatch z) (fun _ => rfl)) (fun z => nomatch z)
/-! is_listed: slots 0:value 1:most -/
abbrev s_is_listed : Stmt := topS 12
theorem sc_is_listed : FnScope ["value", "most"] ["value", "most"] (defScope s_is_listed) := ⟨rfl, rfl, rfl, by decide +kernel, rfl, by decide +kernel, by decide +kernel⟩
def sp_is_listed : Sp := fun vs H Q _ => ∃ (a : Addr) (xs : List V) (m : Int), vs = [.ref a, .int m] ∧ Sq2 H a xs ∧ ∀ H', Same H H' → Q (.bl (decide ((xs.length : Int) ≤ m))) H'
theorem ok_is_listed (D : Df K mg "is_listed" s_is_listed) (T : Tx mg) : Has P w K mg base 1 "is_listed" ["value", "most"] sp_is_listed := by
  refine has_of D sc_is_listed (fun _ _ _ _ _ _ us hl => match us, hl with | [_, _], _ => rfl) (fun vs H Q E h => ?_) (fun f cdv A outer s H vs Q E hr h => ?_)
  · obtain ⟨a, xs, m, rfl, _⟩ := h
    rfl
  · obtain ⟨a, xs, m, rfl, hx, q⟩ := h
    refine ⟨_, (pss_one (ps_ret (pe_and (pe_callB call_isiT (by rfl) T.n_isinstance (by decide +kernel) (pa_cons (pv 0) (pa_cons (pe_tup (pa_cons (pe_bltn (v := .ty "list") (by rfl) T.n_list (by decide +kernel) rfl) (pa_cons (pe_bltn (v := .ty "tuple") (by rfl) T.n_tuple (by decide +kernel) rfl) pa_nil))) pa_nil))) (pe_one (pe_cmpR op_le (pe_callB call_len_seq (by rfl) T.n_len (by decide +kernel) (pa_cons (pv 0) pa_nil)) (pv 1) (nomark _)))))), ?_⟩
    refine ⟨_, rfl, (by show 2 ≤ sizeLine; decide), fun t nt => ?_⟩
    rcases hx with hx | hx
    · refine ⟨_, t, _, _, _, true, rfl, upd_same, .cons (.ty "list") (.cons (.ty "tuple") .nil), .base (.lst (same_upd nt _ _ hx)), kit_lst, true, rfl, iteT ?_⟩
      exact ⟨_, rfl, _, _, rfl, .inl (.of (same_upd nt _ _ hx)), _, rfl, _, _, rfl, rfl, q _ (same_upd nt)⟩
    · refine ⟨_, t, _, _, _, true, rfl, upd_same, .cons (.ty "list") (.cons (.ty "tuple") .nil), .base (.tup (same_upd nt _ _ hx)), kit_tup, true, rfl, iteT ?_⟩
      exact ⟨_, rfl, _, _, rfl, .inr (.of (same_upd nt _ _ hx)), _, rfl, _, _, rfl, rfl, q _ (same_upd nt)⟩
/-! is_couple: slots 0:value -/
abbrev s_is_couple : Stmt := topS 13
theorem sc_is_couple : FnScope ["value"] ["value"] (defScope s_is_couple) := ⟨rfl, rfl, rfl, by decide +kernel, rfl, by decide +kernel, by decide +kernel⟩
def sp_is_couple : Sp := fun vs H Q _ => ∃ (a : Addr) (xs : List V), vs = [.ref a] ∧ Sq2 H a xs ∧ xs.length = 2 ∧ ∀ H', Same H H' → Q (.bl true) H'
theorem ok_is_couple (D : Df K mg "is_couple" s_is_couple) (T : Tx mg) : Has P w K mg base 1 "is_couple" ["value"] sp_is_couple := by
  refine has_of D sc_is_couple (fun _ _ _ _ _ _ us hl => match us, hl with | [_], _ => rfl) (fun vs H Q E h => ?_) (fun f cdv A outer s H vs Q E hr h => ?_)
  · obtain ⟨a, xs, rfl, _⟩ := h
    rfl
  · obtain ⟨a, xs, rfl, hx, hl, q⟩ := h
    refine ⟨_, (pss_one (ps_ret (pe_and (pe_callB call_isiT (by rfl) T.n_isinstance (by decide +kernel) (pa_cons (pv 0) (pa_cons (pe_tup (pa_cons (pe_bltn (v := .ty "list") (by rfl) T.n_list (by decide +kernel) rfl) (pa_cons (pe_bltn (v := .ty "tuple") (by rfl) T.n_tuple (by decide +kernel) rfl) pa_nil))) pa_nil))) (pe_one (pe_cmpR op_eq (pe_callB call_len_seq (by rfl) T.n_len (by decide +kernel) (pa_cons (pv 0) pa_nil)) pe_int (nomark _)))))), ?_⟩
    refine ⟨_, rfl, (by show 2 ≤ sizeLine; decide), fun t nt => ?_⟩
    rcases hx with hx | hx
    · refine ⟨_, t, _, _, _, true, rfl, upd_same, .cons (.ty "list") (.cons (.ty "tuple") .nil), .base (.lst (same_upd nt _ _ hx)), kit_lst, true, rfl, iteT ⟨_, rfl, _, _, rfl, .inl (.of (same_upd nt _ _ hx)), rfl, ?_⟩⟩
      rw [hl]
      exact q _ (same_upd nt)
    · refine ⟨_, t, _, _, _, true, rfl, upd_same, .cons (.ty "list") (.cons (.ty "tuple") .nil), .base (.tup (same_upd nt _ _ hx)), kit_tup, true, rfl, iteT ⟨_, rfl, _, _, rfl, .inr (.of (same_upd nt _ _ hx)), rfl, ?_⟩⟩
      rw [hl]
      exact q _ (same_upd nt)
end
end UP

set_option Elab.async false
set_option linter.all false
set_option maxRecDepth 100000
set_option maxHeartbeats 4000000
namespace UP
open PySem PySem.Spec PyProof.Rows L2
theorem iteP {b : Bool} {A B : Prop} (h : b = true) (x : A) : if b = true then A else B := by
  rw [if_pos h]
  exact x
theorem iteN {b : Bool} {A B : Prop} (h : b = false) (x : B) : if b = true then A else B := by
  rw [if_neg (by rw [h]; decide)]
  exact x
theorem yesT {σ : L2.St} {H : Hp} {A B : Hp → Prop} (h : A H) : tYes σ H (fun b H3 => if b = true then A H3 else B H3) := by
  show (if true = true then A H else B H)
  exact iteT h
theorem lc_gen {J : It} {n : Nat} {g : TG} {tt : TT} {te : TE} {vs : List Nat} {σ : L2.St} {H1 : Hp} {D : Addr} {Qd : Hp → Prop} (Pv : Nat → Hp → Prop) (h0 : Pv 0 (upd H1 D (.lst [])))
    (hg : ∀ i H, i < n → Pv i H → J.go i H) (hst : ∀ H, Pv n H → J.stop n H)
    (hs : ∀ i x H H', i < n → Pv i H → J.yld i H x H' → g x (wipe σ vs) H' fun σ2 H2 => wipe σ2 vs = wipe σ vs ∧ tt σ2 H2 fun b H3 =>
      if b = true then te σ2 H3 fun y H4 => ∃ acc, H4 D = some (.lst acc) ∧ acc.length < sizeLine ∧ Pv (i + 1) (upd H4 D (.lst (acc ++ [y]))) else Pv (i + 1) H3) (hd : ∀ H, Pv n H → Qd H) :
    ∃ W : Nat → Nat → Hp → Prop, (∃ m, W 0 m (upd H1 D (.lst []))) ∧ ∀ i m H, W i m H →
      (J.stop i H ∧ Qd H) ∨ (J.go i H ∧ ∃ Nx : Hp → Prop, (∀ H', Nx H' → ∃ m', m' < m ∧ W (i + 1) m' H') ∧ ∀ x H', J.yld i H x H' → g x (wipe σ vs) H' fun σ2 H2 => wipe σ2 vs = wipe σ vs ∧ tt σ2 H2 fun b H3 =>
        if b = true then te σ2 H3 fun y H4 => ∃ acc, H4 D = some (.lst acc) ∧ acc.length < sizeLine ∧ Nx (upd H4 D (.lst (acc ++ [y]))) else Nx H3) := by
  refine ⟨fun i m H => m = n - i ∧ i ≤ n ∧ Pv i H, ⟨n, by simp, Nat.zero_le _, h0⟩, ?_⟩
  rintro i m H ⟨rfl, hi, p⟩
  by_cases hlt : i < n
  · exact .inr ⟨hg i H hlt p, Pv (i + 1), fun H' p' => ⟨n - (i + 1), by omega, rfl, hlt, p'⟩, fun x H' y => hs i x H H' hlt p y⟩
  · have e : i = n := by omega
    subst e
    exact .inl ⟨hst H p, hd H p⟩
section
variable {X : Cx} {K : PySem.W.Frag}
theorem ix_tupK (h : X.K = K) : IxR X (rIxT K) := h ▸ ix_tup
theorem ix_listK (h : X.K = K) : IxR X (rIxL K) := h ▸ ix_list
theorem pg_tupK {es : List Expr} {k : Nat} {t : TGs} {n : Nat} {pos : Pos} (h : X.K = K) (hc : X.calm = true) (hp : PGs X es t)
    (hn : (assignEach es X.env).length = n := by rfl) (hst : (assignEach es X.env).findIdx? (fun z => z.1) = none := by rfl) : PG X (.Tuple es k pos) (gTup K n t) := by
  subst h
  exact pg_tup hc hp hn hst
theorem call_len_seqK (h : X.K = K) : CallR X (.builtin "len") (fun xs H Q => ∃ p ys, xs = [.ref p] ∧ (SqL K H p ys ∨ SqT K H p ys) ∧ Q (.int ys.length) H) := by
  subst h
  exact call_len_seq
end
theorem ix_seqK {X : Cx} {K : PySem.W.Frag} (h : X.K = K) : IxR X (rIx K) := h ▸ ix_seq
/-! ### lists that grow -/
theorem same_grow {H H4 : Hp} {D : Addr} {o : HO} (n : H D = none) (s : Same H H4) : Same H (upd H4 D o) := fun b x e => by
  rw [upd_ne (ne_of_none e n)]
  exact s b x e
theorem RunV.grow {H : Hp} {D : Addr} {acc acc' : List V} {v : V} {r : Run} (hD : H D = some (.lst acc)) (h : RunV H v r) : RunV (upd H D (.lst acc')) v r := by
  obtain ⟨t, e, h⟩ := h
  refine ⟨t, e, ?_⟩
  rw [upd_ne (ne_of h hD (by intro q; cases q))]
  exact h
theorem prs_grow {H : Hp} {D : Addr} {acc acc' : List V} {xs : List V} {rs : List Run} (hD : H D = some (.lst acc)) (h : Paired (RunV H) xs rs) : Paired (RunV (upd H D (.lst acc'))) xs rs := Paired.imp (fun _ _ => RunV.grow hD) h
theorem prs_same {H H' : Hp} {xs : List V} {rs : List Run} (s : Same H H') (h : Paired (RunV H) xs rs) : Paired (RunV H') xs rs := Paired.imp (fun _ _ => RunV.same s) h
theorem take_snoc {α : Type} {l : List α} {i : Nat} {x : α} (h : l[i]? = some x) : l.take (i + 1) = l.take i ++ [x] := by
  rw [List.take_add_one, h]
  rfl
theorem lc_wk {J : It} {H0 H1 : Hp} {xs : List V} {g : TG} {tt : TT} {te : TE} {vs : List Nat} {σ : L2.St} {D : Addr} {Qd : Hp → Prop} (wk : Wk J H0 xs) (Pv : Nat → Hp → Prop) (hsm : ∀ i H, Pv i H → Same H0 H) (h0 : Pv 0 (upd H1 D (.lst [])))
    (hs : ∀ i x H, xs[i]? = some x → Pv i H → g x (wipe σ vs) H fun σ2 H2 => wipe σ2 vs = wipe σ vs ∧ tt σ2 H2 fun b H3 =>
      if b = true then te σ2 H3 fun y H4 => ∃ acc, H4 D = some (.lst acc) ∧ acc.length < sizeLine ∧ Pv (i + 1) (upd H4 D (.lst (acc ++ [y]))) else Pv (i + 1) H3) (hd : ∀ H, Pv xs.length H → Qd H) :
    ∃ W : Nat → Nat → Hp → Prop, (∃ m, W 0 m (upd H1 D (.lst []))) ∧ ∀ i m H, W i m H →
      (J.stop i H ∧ Qd H) ∨ (J.go i H ∧ ∃ Nx : Hp → Prop, (∀ H', Nx H' → ∃ m', m' < m ∧ W (i + 1) m' H') ∧ ∀ x H', J.yld i H x H' → g x (wipe σ vs) H' fun σ2 H2 => wipe σ2 vs = wipe σ vs ∧ tt σ2 H2 fun b H3 =>
        if b = true then te σ2 H3 fun y H4 => ∃ acc, H4 D = some (.lst acc) ∧ acc.length < sizeLine ∧ Nx (upd H4 D (.lst (acc ++ [y]))) else Nx H3) := by
  refine lc_gen Pv h0 (fun i H hi p => wk.go i H (hsm i H p) hi) (fun H p => wk.stop H (hsm _ H p)) (fun i x H H' hi p y => ?_) hd
  obtain ⟨e, ex⟩ := wk.yld i x H H' (hsm i H p) y
  subst e
  exact hs i x _ ex p
theorem for_wk {J : It} {H0 H : Hp} {xs : List V} {g : TG} {tb : TS} {D : Ends} {σ : L2.St} (wk : Wk J H0 xs) (Pv : Nat → L2.St → Hp → Prop) (hsm : ∀ i σ H, Pv i σ H → Same H0 H) (h0 : Pv 0 σ H)
    (hs : ∀ i x σ H, xs[i]? = some x → Pv i σ H → g x σ H fun σ2 H2 => tb { D with nx := Pv (i + 1), ct := Pv (i + 1), bk := D.nx } σ2 H2) (hd : ∀ σ H, Pv xs.length σ H → D.nx σ H) :
    ∃ W : Nat → Nat → L2.St → Hp → Prop, (∃ m, W 0 m σ H) ∧ ∀ i m σ H, W i m σ H →
      (J.stop i H ∧ D.nx σ H) ∨ (J.go i H ∧ ∃ N : L2.St → Hp → Prop, (∀ σ' H', N σ' H' → ∃ m', m' < m ∧ W (i + 1) m' σ' H') ∧ ∀ x H', J.yld i H x H' → g x σ H' fun σ2 H2 => tb { D with nx := N, ct := N, bk := D.nx } σ2 H2) := by
  refine ⟨fun i m σ H => m = xs.length - i ∧ i ≤ xs.length ∧ Pv i σ H, ⟨xs.length, by omega, Nat.zero_le _, h0⟩, ?_⟩
  rintro i m σ H ⟨rfl, hi, p⟩
  by_cases hlt : i < xs.length
  · refine Or.inr ⟨wk.go i H (hsm i σ H p) hlt, Pv (i + 1), fun σ' H' p' => ⟨xs.length - (i + 1), by omega, rfl, hlt, p'⟩, fun x H' y => ?_⟩
    obtain ⟨e, ex⟩ := wk.yld i x H H' (hsm i σ H p) y
    subst e
    exact hs i x σ _ ex p
  · have e : i = xs.length := by omega
    subst e
    exact Or.inl ⟨wk.stop H (hsm _ σ H p), hd σ H p⟩
section
variable {P : Program} {w : World} {K : PySem.W.Frag} {mg : Str → Option Value} {base : Heap}
theorem lex1 {c d : Nat} : (!decide (([c] : List Nat) < [d])) = decide (d ≤ c) := by
  have e : (([c] : List Nat) < [d]) ↔ c < d := by
    rw [List.cons_lt_cons_iff]
    simp
  by_cases h : c < d
  · rw [decide_eq_true (e.mpr h), decide_eq_false (by omega)]
    rfl
  · rw [decide_eq_false (fun z => h (e.mp z)), decide_eq_true (by omega)]
    rfl
/-! is_kind: slots 0:value 1:letter -/
abbrev s_is_kind : Stmt := topS 14
theorem sc_is_kind : FnScope ["value", "letter"] ["value"] (defScope s_is_kind) := ⟨rfl, rfl, rfl, by decide +kernel, rfl, by decide +kernel, by decide +kernel⟩
def sp_is_kind : Sp := fun vs H Q _ => ∃ z : Str, vs = [.str z] ∧ KindOk z ∧ ∀ H', Same H H' → Q (.bl true) H'
theorem ok_is_kind (D : Df K mg "is_kind" s_is_kind) (T : Tx mg) : Has P w K mg base 1 "is_kind" ["value"] sp_is_kind := by
  refine has_of D sc_is_kind (fun _ _ _ _ _ _ us hl => match us, hl with | [_], _ => rfl) (fun vs H Q E h => ?_) (fun f cdv A outer s H vs Q E hr h => ?_)
  · obtain ⟨n, rfl, _⟩ := h
    rfl
  · obtain ⟨z, rfl, ⟨k1, k2, k3⟩, q⟩ := h
    refine ⟨_, (pss_cons (ps_if (PW.pt (pw_or (pt_not (pt_val (pe_callB call_isi (by rfl) T.n_isinstance (by decide +kernel) (pa_cons (pv 0) (pa_cons (pe_bltn (v := .ty "str") (by rfl) T.n_str (by decide +kernel) rfl) pa_nil))))) (pw_or1 (pt_not (pt_chain op_le op_le pe_int (pe_callB call_len_str (by rfl) T.n_len (by decide +kernel) (pa_cons (pv 0) pa_nil)) (pe_glI T.c_MAX_LETTERS (by rfl))))))) (pss_one (ps_ret pe_bl)) pss_nil)
    (pss_one (ps_ret (pe_callB (cr_all rfl) (by rfl) T.n_all (by decide +kernel) (pa_cons (pe_lc (own := [("letter", 1)]) rfl sc_is_kind.nd (pi_str (pv 0)) (blkOk_by (N := ["value", "letter"]) (sc := defScope s_is_kind) (by decide +kernel)) (fun _ _ _ _ _ => (pg_name (i := 1) sc_is_kind.nd rfl (by first | exact Or.inl rfl | exact Or.inr rfl))) (fun _ _ _ _ _ => pts_nil) (fun _ _ _ _ _ => (pe_chain op_le_str op_le_str pe_str (pv 1) pe_str))) pa_nil))))), ?_⟩
    refine ⟨_, rfl, _, _, _, _, true, rfl, .ty "str", .base (.str z), kit_ty (by decide +kernel), true, rfl, iteF ?_⟩
    refine ⟨_, rfl, z, rfl, smallE (by omega), _, _, rfl, rfl, _, rfl, iteP (decide_eq_true (by omega)) ⟨_, _, rfl, rfl, _, rfl, iteN ?_ ?_⟩⟩
    · show (!decide ((z.length : Int) ≤ 8)) = false
      rw [decide_eq_true (by omega)]
      rfl
    refine ⟨_, rfl, z, rfl, fun L nL => lc_gen (n := z.cps.size) (fun i H' => Same H H' ∧ H' L = some (.lst ((List.replicate i true).map V.bl))) ⟨same_upd nL, upd_same⟩ (fun i H' hi _ => hi) (fun H' _ => Nat.le_refl _) (fun i x H1 H2 hi p y => ?_) (fun H' p => ?_)⟩
    · obtain ⟨rfl, c, ec, rfl⟩ := y
      obtain ⟨sm, hL⟩ := p
      have hc : 97 ≤ c ∧ c ≤ 122 := k3 c (by
        have := Array.mem_of_getElem? ec
        simpa using this)
      have ea : ("a" : Str).cps.toList = [97] := by decide +kernel
      have ez : ("z" : Str).cps.toList = [122] := by decide +kernel
      refine ⟨rfl, yesT ⟨_, rfl, _, _, rfl, rfl, _, rfl, iteP ?_ ⟨_, _, rfl, rfl, _, hL, ?_, ?_, ?_⟩⟩⟩
      · show (!decide (([c] : List Nat) < ("a" : Str).cps.toList)) = true
        rw [ea, lex1]
        exact decide_eq_true hc.1
      · simp only [List.length_map, List.length_replicate]
        exact small (by have : z.cps.size = z.length := rfl; omega)
      · intro b o e
        have nb : b ≠ L := ne_of_none e nL
        rw [upd_ne nb]
        exact sm b o e
      · rw [upd_same]
        have e1 : (!decide ((("z" : Str).cps.toList) < ([c] : List Nat))) = true := by
          rw [ez, lex1]
          exact decide_eq_true hc.2
        show some (HO.lst ((List.replicate i true).map V.bl ++ [V.bl (!decide ((("z" : Str).cps.toList) < ([c] : List Nat)))])) = _
        rw [e1, List.replicate_succ', List.map_append]
        rfl
    · refine ⟨L, _, rfl, .of p.2, ?_⟩
      have e : ((List.replicate z.cps.size true).all id) = true := by simp
      rw [e]
      exact q H' p.1
def StOk (st : Option Run) : Prop := ∀ r, st = some r → KindOk r.1 ∧ 1 ≤ r.2
theorem at0 {α : Type} {x y : α} : atI [x, y] 0 = some x := rfl
theorem at1 {α : Type} {x y : α} : atI [x, y] 1 = some y := rfl
theorem ix0 {K : PySem.W.Frag} {H : Hp} {t : Addr} {x y : V} {Q : VK} (h : Sq2 H t [x, y]) (q : Q x H) : rIx K (.ref t) (.int 0) H Q := h.elim (fun z => .inl ⟨t, _, 0, _, rfl, rfl, .of z, at0, q⟩) (fun z => .inr (.inl ⟨t, _, 0, _, rfl, rfl, .of z, at0, q⟩))
theorem ix1 {K : PySem.W.Frag} {H : Hp} {t : Addr} {x y : V} {Q : VK} (h : Sq2 H t [x, y]) (q : Q y H) : rIx K (.ref t) (.int 1) H Q := h.elim (fun z => .inl ⟨t, _, 1, _, rfl, rfl, .of z, at1, q⟩) (fun z => .inr (.inl ⟨t, _, 1, _, rfl, rfl, .of z, at1, q⟩))
theorem all_rep (n : Nat) : ((List.replicate n true).all id) = true := by simp
/-! is_run: slots 0:value -/
abbrev s_is_run : Stmt := topS 15
theorem sc_is_run : FnScope ["value"] ["value"] (defScope s_is_run) := ⟨rfl, rfl, rfl, by decide +kernel, rfl, by decide +kernel, by decide +kernel⟩
def sp_is_run : Sp := fun vs H Q _ => ∃ (v : V) (r : Run), vs = [v] ∧ RunG H v r ∧ RunOk r ∧ ∀ H', Same H H' → Q (.bl true) H'
theorem ok_is_run (D : Df K mg "is_run" s_is_run) (T : Tx mg) (G_is_couple : Has P w K mg base 1 "is_couple" ["value"] sp_is_couple) (G_is_kind : Has P w K mg base 1 "is_kind" ["value"] sp_is_kind) (G_is_within : Has P w K mg base 2 "is_within" ["value", "low", "high"] sp_is_within) :
    Has P w K mg base 3 "is_run" ["value"] sp_is_run := by
  refine has_of D sc_is_run (fun _ _ _ _ _ _ us hl => match us, hl with | [_], _ => rfl) (fun vs H Q E h => ?_) (fun f cdv A outer s H vs Q E hr h => ?_)
  · obtain ⟨v, r, rfl, _⟩ := h
    rfl
  · obtain ⟨v, r, rfl, ⟨t, rfl, ht⟩, ⟨k, c1, c2⟩, q⟩ := h
    refine ⟨_, (pss_one (ps_ret (pe_and (pe_callH G_is_couple (hr.mono (by omega)) (by rfl) (pa_cons (pv 0) pa_nil)) (pe_and (pe_callH G_is_kind (hr.mono (by omega)) (by rfl) (pa_cons (pe_ix ix_seq (pv 0) pe_int (fun _ _ => rfl)) pa_nil)) (pe_one (pe_callH G_is_within (hr.mono (by omega)) (by rfl) (pa_cons (pe_ix ix_seq (pv 0) pe_int (fun _ _ => rfl)) (pa_cons pe_int (pa_cons (pe_glI T.c_MAX_COUNT (by rfl)) pa_nil))))))))), ?_⟩
    refine ⟨_, rfl, t, _, rfl, ht, rfl, fun H1 s1 => ⟨true, rfl, iteT ?_⟩⟩
    refine ⟨_, rfl, ix0 (ht.same s1) ⟨r.1, rfl, k, fun H2 s2 => ⟨true, rfl, iteT ?_⟩⟩⟩
    refine ⟨_, rfl, ix1 ((ht.same s1).same s2) ⟨r.2, 1, _, rfl, ?_⟩⟩
    rw [decide_eq_true ⟨c1, c2⟩]
    exact q _ (s1.trans s2)
/-! is_state: slots 0:value -/
abbrev s_is_state : Stmt := topS 17
theorem sc_is_state : FnScope ["value"] ["value"] (defScope s_is_state) := ⟨rfl, rfl, rfl, by decide +kernel, rfl, by decide +kernel, by decide +kernel⟩
def sp_is_state : Sp := fun vs H Q _ => ∃ (v : V) (st : Option Run), vs = [v] ∧ StG H v st ∧ StOk st ∧ ∀ H', Same H H' → Q (.bl true) H'
theorem ok_is_state (D : Df K mg "is_state" s_is_state) (T : Tx mg) (G_is_couple : Has P w K mg base 1 "is_couple" ["value"] sp_is_couple) (G_is_kind : Has P w K mg base 1 "is_kind" ["value"] sp_is_kind) (G_is_whole : Has P w K mg base 1 "is_whole" ["value"] sp_is_whole) :
    Has P w K mg base 2 "is_state" ["value"] sp_is_state := by
  refine has_of D sc_is_state (fun _ _ _ _ _ _ us hl => match us, hl with | [_], _ => rfl) (fun vs H Q E h => ?_) (fun f cdv A outer s H vs Q E hr h => ?_)
  · obtain ⟨v, r, rfl, _⟩ := h
    rfl
  · obtain ⟨v, st, rfl, hv, ok, q⟩ := h
    refine ⟨_, (pss_cons (ps_if (pt_cmpR op_isN (pv 0) pe_non (nomark _)) (pss_one (ps_ret pe_bl)) pss_nil)
    (pss_one (ps_ret (pe_and (pe_callH G_is_couple (hr.mono (by omega)) (by rfl) (pa_cons (pv 0) pa_nil)) (pe_and (pe_callH G_is_kind (hr.mono (by omega)) (by rfl) (pa_cons (pe_ix ix_seq (pv 0) pe_int (fun _ _ => rfl)) pa_nil)) (pe_and (pe_callH G_is_whole (hr.mono (by omega)) (by rfl) (pa_cons (pe_ix ix_seq (pv 0) pe_int (fun _ _ => rfl)) pa_nil)) (pe_one (pe_cmpR op_ge (pe_ix ix_seq (pv 0) pe_int (fun _ _ => rfl)) pe_int (nomark _))))))))), ?_⟩
    cases st with
    | none =>
      cases hv
      exact ⟨_, rfl, rfl, _, rfl, iteP rfl (q H (Same.refl H))⟩
    | some r =>
      obtain ⟨t, rfl, ht⟩ := hv
      obtain ⟨k, c1⟩ := ok r rfl
      refine ⟨_, rfl, rfl, _, rfl, iteN rfl ?_⟩
      refine ⟨_, rfl, t, _, rfl, ht, rfl, fun H1 s1 => ⟨true, rfl, iteT ?_⟩⟩
      refine ⟨_, rfl, ix0 (ht.same s1) ⟨r.1, rfl, k, fun H2 s2 => ⟨true, rfl, iteT ?_⟩⟩⟩
      refine ⟨_, rfl, ix1 ((ht.same s1).same s2) ⟨r.2, rfl, true, rfl, iteT ?_⟩⟩
      refine ⟨_, rfl, ix1 ((ht.same s1).same s2) ⟨_, _, rfl, rfl, ?_⟩⟩
      show Q (.bl (decide (1 ≤ r.2))) H2
      rw [decide_eq_true c1]
      exact q _ (s1.trans s2)
/-! is_sequence: slots 0:value 1:run 2:following -/
abbrev s_is_sequence : Stmt := topS 16
theorem sc_is_sequence : FnScope ["value", "run", "following"] ["value"] (defScope s_is_sequence) := ⟨rfl, rfl, rfl, by decide +kernel, rfl, by decide +kernel, by decide +kernel⟩
def sp_is_sequence : Sp := fun vs H Q _ => ∃ (v : V) (rs : List Run), vs = [v] ∧ RunsG H v rs ∧ SeqOk rs ∧ ∀ H', Same H H' → Q (.bl true) H'
theorem ok_is_sequence (D : Df K mg "is_sequence" s_is_sequence) (T : Tx mg) (G_is_listed : Has P w K mg base 1 "is_listed" ["value", "most"] sp_is_listed) (G_is_run : Has P w K mg base 3 "is_run" ["value"] sp_is_run) :
    Has P w K mg base 4 "is_sequence" ["value"] sp_is_sequence := by
  refine has_of D sc_is_sequence (fun _ _ _ _ _ _ us hl => match us, hl with | [_], _ => rfl) (fun vs H Q E h => ?_) (fun f cdv A outer s H vs Q E hr h => ?_)
  · obtain ⟨v, r, rfl, _⟩ := h
    rfl
  · obtain ⟨v, rs, rfl, ⟨a, xs, rfl, hx, hp⟩, ⟨l4, rok, alt⟩, q⟩ := h
    have lx : xs.length = rs.length := Paired.len hp
    refine ⟨_, (pss_cons (ps_if (PW.pt (pw_or (pt_not (pt_val (pe_callH G_is_listed (hr.mono (by omega)) (by rfl) (pa_cons (pv 0) (pa_cons (pe_glI T.c_MAX_RUNS (by rfl)) pa_nil))))) (pw_or1 (pt_not (pt_val (pe_callB (cr_all rfl) (by rfl) T.n_all (by decide +kernel) (pa_cons (pe_lc (own := [("run", 1)]) rfl sc_is_sequence.nd (pi_seqV 0) (blkOk_by (N := ["value", "run", "following"]) (sc := defScope s_is_sequence) (by decide +kernel)) (fun _ _ _ _ _ => (pg_name (i := 1) sc_is_sequence.nd rfl (by first | exact Or.inl rfl | exact Or.inr rfl))) (fun _ _ _ _ _ => pts_nil) (fun _ _ _ _ _ => (pe_callH G_is_run (hr.mono (by omega)) (by rfl) (pa_cons (pv 1) pa_nil)))) pa_nil))))))) (pss_one (ps_ret pe_bl)) pss_nil)
    (pss_one (ps_ret (pe_callB (cr_all rfl) (by rfl) T.n_all (by decide +kernel) (pa_cons (pe_lc (own := [("run", 1), ("following", 2)]) rfl sc_is_sequence.nd (pi_zip1 (i := 0) (RZ.pi_zipA (by rfl) T.n_zip (pa_cons (pv 0) (pa_cons (pe_slice (SlR.or sl_list sl_tupA) (pv 0) (po_some pe_int) po_none) pa_nil))) (fun _ _ _ q => ⟨1, rfl, q⟩) (fun _ _ _ q => q)) (blkOk_by (N := ["value", "run", "following"]) (sc := defScope s_is_sequence) (by decide +kernel)) (fun _ _ _ _ _ => (pg_tupK (K := K) (n := 2) rfl rfl (pgs_cons (pg_name (i := 1) sc_is_sequence.nd rfl (by first | exact Or.inl rfl | exact Or.inr rfl)) (pgs_cons (pg_name (i := 2) sc_is_sequence.nd rfl (by first | exact Or.inl rfl | exact Or.inr rfl)) pgs_nil)))) (fun _ _ _ _ _ => pts_nil) (fun _ _ _ _ _ => (pe_cmpR op_ne (pe_ix (ix_seqK (K := K) rfl) (pv 1) pe_int (fun _ _ => rfl)) (pe_ix (ix_seqK (K := K) rfl) (pv 2) pe_int (fun _ _ => rfl)) (nomark _)))) pa_nil))))), ?_⟩
    refine ⟨_, rfl, a, xs, 400, rfl, hx, fun H1 s1 => ⟨_, rfl, iteN ?_ ?_⟩⟩
    · show (!decide ((xs.length : Int) ≤ 400)) = false
      rw [decide_eq_true (by omega)]
      rfl
    refine ⟨a, xs, rfl, hx.same s1, fun J wk L nL => lc_wk wk (fun i H' => Same H1 H' ∧ H' L = some (.lst ((List.replicate i true).map V.bl))) (fun _ _ p => p.1) ⟨same_upd nL, upd_same⟩ (fun i x H2 ex p => ?_) (fun H2 p => ?_)⟩
    · obtain ⟨sm, hL⟩ := p
      obtain ⟨r, er, hr1⟩ := Paired.at hp ex
      have hi : i < xs.length := (List.getElem?_eq_some_iff.mp ex).1
      refine ⟨rfl, yesT ⟨_, rfl, x, r, rfl, RunG.same (s1.trans sm) hr1, rok r (List.mem_of_getElem? er), fun H3 s3 => ⟨_, s3 _ _ hL, ?_, same_grow nL (sm.trans s3), ?_⟩⟩⟩
      · simp only [List.length_map, List.length_replicate]
        exact small (by omega)
      · rw [upd_same, List.replicate_succ', List.map_append]
        rfl
    · refine ⟨L, _, rfl, .of p.2, _, rfl, iteN ?_ ?_⟩
      · rw [all_rep]
        rfl
      have s2 : Same H H2 := s1.trans p.1
      refine ⟨a, xs, rfl, hx.same s2, fun J Hc sc wk M nM => ?_⟩
      have sA : Same H Hc := s2.trans sc
      refine lc_gen (n := xs.length - 1) (fun i H' => Same Hc H' ∧ H' M = some (.lst ((List.replicate i true).map V.bl))) ⟨same_upd nM, upd_same⟩ (fun i H' hi p => wk.go i H' p.1 (by omega)) (fun H' p => wk.stop H' p.1) (fun i x H3 H4 hi p y => ?_) (fun H' p => ?_)
      · obtain ⟨T', x1, x2, rfl, nT, rfl, g1, g2⟩ := wk.yld i x H3 H4 p.1 y
        obtain ⟨sm, hM⟩ := p
        have g2 := g2 (by omega)
        have sB : Same H H3 := sA.trans sm
        obtain ⟨r1, e1, v1⟩ := Paired.at hp g1
        obtain ⟨r2, e2, v2⟩ := Paired.at hp g2
        obtain ⟨t1, rfl, w1⟩ := RunG.same (sB.trans (same_upd (o := .tup [x1, x2]) nT)) v1
        obtain ⟨t2, rfl, w2⟩ := RunG.same (sB.trans (same_upd (o := .tup [_, x2]) nT)) v2
        refine ⟨T', _, rfl, .of upd_same, rfl, _, _, rfl, _, _, rfl, rfl, rfl, yesT ?_⟩
        refine ⟨_, rfl, ix0 w1 ⟨_, rfl, ix0 w2 ⟨rfl, _, same_upd nT _ _ hM, ?_, same_grow nM (sm.trans (same_upd nT)), ?_⟩⟩⟩
        · simp only [List.length_map, List.length_replicate]
          exact small (by omega)
        · rw [upd_same, List.replicate_succ', List.map_append]
          have ne : (!decide (V.str r1.1 = V.str r2.1)) = true := by
            rw [decide_eq_false (fun z => alt i r1 r2 e1 e2 (V.str.inj z))]
            rfl
          rw [ne]
          rfl
      · refine ⟨M, _, rfl, .of p.2, ?_⟩
        rw [all_rep]
        exact q _ (sA.trans p.1)
/-! checked_runs: slots 0:sequence 1:kind 2:count -/
abbrev s_checked_runs : Stmt := topS 18
theorem sc_checked_runs : FnScope ["sequence", "kind", "count"] ["sequence"] (defScope s_checked_runs) := ⟨rfl, rfl, rfl, by decide +kernel, rfl, by decide +kernel, by decide +kernel⟩
def sp_checked_runs : Sp := fun vs H Q _ => ∃ (v : V) (rs : List Run), vs = [v] ∧ RunsG H v rs ∧ SeqOk rs ∧ ∀ H' p, Same H H' → H p = none → Runs H' p rs → Q (.ref p) H'
theorem ok_checked_runs (D : Df K mg "checked_runs" s_checked_runs) (T : Tx mg) (G_is_sequence : Has P w K mg base 4 "is_sequence" ["value"] sp_is_sequence) :
    Has P w K mg base 5 "checked_runs" ["sequence"] sp_checked_runs := by
  refine has_of D sc_checked_runs (fun _ _ _ _ _ _ us hl => match us, hl with | [_], _ => rfl) (fun vs H Q E h => ?_) (fun f cdv A outer s H vs Q E hr h => ?_)
  · obtain ⟨v, r, rfl, _⟩ := h
    rfl
  · obtain ⟨v, rs, rfl, hR, ok, q⟩ := h
    refine ⟨_, (pss_cons (ps_if (pt_not (pt_val (pe_callH G_is_sequence (hr.mono (by omega)) (by rfl) (pa_cons (pv 0) pa_nil)))) (pss_one ps_never) pss_nil)
    (pss_one (ps_ret (pe_lc (own := [("kind", 1), ("count", 2)]) rfl sc_checked_runs.nd (pi_seqV 0) (blkOk_by (N := ["sequence", "kind", "count"]) (sc := defScope s_checked_runs) (by decide +kernel)) (fun _ _ _ _ _ => (pg_any (n := 2) rfl (pgs_cons (pg_name (i := 1) sc_checked_runs.nd rfl (by first | exact Or.inl rfl | exact Or.inr rfl)) (pgs_cons (pg_name (i := 2) sc_checked_runs.nd rfl (by first | exact Or.inl rfl | exact Or.inr rfl)) pgs_nil)))) (fun _ _ _ _ _ => pts_nil) (fun _ _ _ _ _ => (pe_tup (pa_cons (pv 1) (pa_cons (pv 2) pa_nil)))))))), ?_⟩
    refine ⟨_, rfl, v, rs, rfl, hR, ok, fun H1 s1 => ⟨true, rfl, iteF ?_⟩⟩
    obtain ⟨a, xs, rfl, hx, hp⟩ := hR
    have lx : xs.length = rs.length := Paired.len hp
    refine ⟨a, xs, rfl, hx.same s1, fun J wk L nL => lc_wk wk (fun i H' => Same H1 H' ∧ ∃ ys, H' L = some (.lst ys) ∧ Paired (RunV H') ys (rs.take i)) (fun _ _ p => p.1) ⟨same_upd nL, [], upd_same, .nil⟩ (fun i x H2 ex p => ?_) (fun H2 p => ?_)⟩
    · obtain ⟨sm, ys, hL, hy⟩ := p
      obtain ⟨r, er, hr1⟩ := Paired.at hp ex
      have hi : i < xs.length := (List.getElem?_eq_some_iff.mp ex).1
      obtain ⟨t, rfl, ht⟩ := RunG.same (s1.trans sm) hr1
      refine ⟨t, _, rfl, ht, rfl, _, _, rfl, _, _, rfl, rfl, rfl, yesT ⟨_, rfl, _, rfl, (by show 2 ≤ sizeLine; decide), fun n nn => ⟨_, same_upd nn _ _ hL, ?_, same_grow nL (sm.trans (same_upd nn)), _, upd_same, ?_⟩⟩⟩
      · have := Paired.len hy
        rw [List.length_take] at this
        exact small (by have := ok.1; omega)
      · rw [take_snoc er]
        refine Paired.app (prs_grow (same_upd nn _ _ hL) (prs_same (same_upd nn) hy)) (.cons ?_ .nil)
        exact RunV.grow (same_upd nn _ _ hL) ⟨n, rfl, upd_same⟩
    · obtain ⟨sm, ys, hL, hy⟩ := p
      rw [lx, List.take_length] at hy
      exact q H2 L (s1.trans sm) (s1.free nL) ⟨ys, hL, hy⟩
/-! checked_state: slots 0:state -/
abbrev s_checked_state : Stmt := topS 20
theorem sc_checked_state : FnScope ["state"] ["state"] (defScope s_checked_state) := ⟨rfl, rfl, rfl, by decide +kernel, rfl, by decide +kernel, by decide +kernel⟩
def sp_checked_state : Sp := fun vs H Q _ => ∃ (v : V) (st : Option Run), vs = [v] ∧ StG H v st ∧ StOk st ∧ ∀ H' v', Same H H' → StV H' v' st → Q v' H'
theorem ok_checked_state (D : Df K mg "checked_state" s_checked_state) (T : Tx mg) (G_is_state : Has P w K mg base 2 "is_state" ["value"] sp_is_state) :
    Has P w K mg base 3 "checked_state" ["state"] sp_checked_state := by
  refine has_of D sc_checked_state (fun _ _ _ _ _ _ us hl => match us, hl with | [_], _ => rfl) (fun vs H Q E h => ?_) (fun f cdv A outer s H vs Q E hr h => ?_)
  · obtain ⟨v, r, rfl, _⟩ := h
    rfl
  · obtain ⟨v, st, rfl, hv, ok, q⟩ := h
    refine ⟨_, (pss_cons (ps_if (pt_not (pt_val (pe_callH G_is_state (hr.mono (by omega)) (by rfl) (pa_cons (pv 0) pa_nil)))) (pss_one ps_never) pss_nil)
    (pss_one (ps_ret (pe_ifExp (pt_cmpR op_isN (pv 0) pe_non (nomark _)) pe_non (pe_callTy call_tuple_of (by rfl) T.n_tuple (by decide +kernel) (pa_cons (pv 0) pa_nil)))))), ?_⟩
    refine ⟨_, rfl, v, st, rfl, hv, ok, fun H1 s1 => ⟨true, rfl, iteF ?_⟩⟩
    cases st with
    | none =>
      cases hv
      exact ⟨_, rfl, rfl, _, rfl, iteP rfl (q H1 _ s1 rfl)⟩
    | some r =>
      obtain ⟨t, rfl, ht⟩ := hv
      refine ⟨_, rfl, rfl, _, rfl, iteN rfl ⟨_, rfl, t, [.str r.1, .int r.2], rfl, ?_⟩⟩
      rcases ht.same s1 with z | z
      · exact .inl ⟨.of z, fun l nl => q _ _ (s1.trans (same_upd nl)) ⟨l, rfl, upd_same⟩⟩
      · exact .inr ⟨.of z, q H1 _ s1 ⟨t, rfl, z⟩⟩
end
end UP

set_option Elab.async false
set_option linter.all false
set_option maxRecDepth 100000
set_option maxHeartbeats 4000000
namespace UP
open PySem PySem.Spec PyProof.Rows L2
section
variable {P : Program} {w : World} {K : PySem.W.Frag} {mg : Str → Option Value} {base : Heap}
def lenR (rs : List Run) : Int := (rs.map (·.2)).sum
/-! length_of: slots 0:runs 1:kind 2:count -/
abbrev s_length_of : Stmt := topS 21
theorem sc_length_of : FnScope ["runs", "kind", "count"] ["runs"] (defScope s_length_of) := ⟨rfl, rfl, rfl, by decide +kernel, rfl, by decide +kernel, by decide +kernel⟩
def sp_length_of : Sp := fun vs H Q _ => ∃ (a : Addr) (rs : List Run), vs = [.ref a] ∧ Runs H a rs ∧ rs.length ≤ 1000 ∧ ∀ H', Same H H' → Q (.int (lenR rs)) H'
theorem ok_length_of (D : Df K mg "length_of" s_length_of) (T : Tx mg) : Has P w K mg base 1 "length_of" ["runs"] sp_length_of := by
  refine has_of D sc_length_of (fun _ _ _ _ _ _ us hl => match us, hl with | [_], _ => rfl) (fun vs H Q E h => ?_) (fun f cdv A outer s H vs Q E hr h => ?_)
  · obtain ⟨v, r, rfl, _⟩ := h
    rfl
  · obtain ⟨a, rs, rfl, ⟨xs, hx, hp⟩, l4, q⟩ := h
    have lx : xs.length = rs.length := Paired.len hp
    refine ⟨_, (pss_one (ps_ret (pe_callB (cr_sum rfl) (by rfl) T.n_sum (by decide +kernel) (pa_cons (pe_lc (own := [("kind", 1), ("count", 2)]) rfl sc_length_of.nd (pi_list (pv 0)) (blkOk_by (N := ["runs", "kind", "count"]) (sc := defScope s_length_of) (by decide +kernel)) (fun _ _ _ _ _ => (pg_tupK (K := K) (n := 2) rfl rfl (pgs_cons (pg_name (i := 1) sc_length_of.nd rfl (by first | exact Or.inl rfl | exact Or.inr rfl)) (pgs_cons (pg_name (i := 2) sc_length_of.nd rfl (by first | exact Or.inl rfl | exact Or.inr rfl)) pgs_nil)))) (fun _ _ _ _ _ => pts_nil) (fun _ _ _ _ _ => (pv 2))) pa_nil)))), ?_⟩
    refine ⟨_, rfl, a, rfl, ⟨xs, .of hx⟩, fun L nL => lc_list (K := K) (a := a) (xs := xs) (fun i H' => Same H H' ∧ H' L = some (.lst (((rs.map (·.2)).take i).map V.int))) ⟨same_upd nL, upd_same⟩ (fun i H' _ p => .of (p.1 _ _ hx)) (fun i x H2 ex p => ?_) (fun H2 p => ?_)⟩
    · obtain ⟨sm, hL⟩ := p
      obtain ⟨r, er, hr1⟩ := Paired.at hp ex
      have hi : i < xs.length := (List.getElem?_eq_some_iff.mp ex).1
      obtain ⟨t, rfl, ht⟩ := RunV.same sm hr1
      refine ⟨t, _, rfl, .of ht, rfl, _, _, rfl, _, _, rfl, rfl, rfl, yesT ⟨_, rfl, _, hL, ?_, same_grow nL sm, ?_⟩⟩
      · simp only [List.length_map, List.length_take]
        exact small (by omega)
      · rw [upd_same, take_snoc (x := r.2) (by rw [List.getElem?_map, er]; rfl), List.map_append]
        rfl
    · refine ⟨L, (rs.map (fun r : Run => r.2)), rfl, .of ?_, q H2 p.1⟩
      have := p.2
      rw [List.take_of_length_le (by rw [List.length_map]; omega)] at this
      exact this
end
end UP

set_option Elab.async false
set_option linter.all false
set_option maxRecDepth 100000
set_option maxHeartbeats 4000000
namespace UP
open PySem PySem.Spec PyProof.Rows L2
/-! ### the mirror of cut -/
theorem lenR_nil : lenR [] = 0 := rfl
theorem lenR_cons (r : Run) (l : List Run) : lenR (r :: l) = r.2 + lenR l := by
  unfold lenR
  rw [List.map_cons, List.sum_cons]
theorem lenR_app (l m : List Run) : lenR (l ++ m) = lenR l + lenR m := by
  induction l with
  | nil => rw [List.nil_append, lenR_nil]; omega
  | cons r t ih => rw [List.cons_append, lenR_cons, lenR_cons, ih]; omega
theorem lenR_snoc (l : List Run) (r : Run) : lenR (l ++ [r]) = lenR l + r.2 := by
  rw [lenR_app, lenR_cons, lenR_nil]
  omega
def sizeR (b s e c : Int) : Int := (if b + c < e then b + c else e) - (if b > s then b else s)
def pieceR (b s e : Int) (r : Run) : List Run := if 0 < sizeR b s e r.2 then [(r.1, sizeR b s e r.2)] else []
def cutR (s e : Int) : Int → List Run → List Run
  | _, [] => []
  | b, r :: t => pieceR b s e r ++ cutR s e (b + r.2) t
theorem cutR_snoc (s e : Int) : ∀ (l : List Run) (b : Int) (r : Run), cutR s e b (l ++ [r]) = cutR s e b l ++ pieceR (b + lenR l) s e r
  | [], b, r => by
    show pieceR b s e r ++ [] = [] ++ pieceR (b + lenR []) s e r
    rw [lenR_nil, Int.add_zero, List.append_nil, List.nil_append]
  | x :: t, b, r => by
    show pieceR b s e x ++ cutR s e (b + x.2) (t ++ [r]) = (pieceR b s e x ++ cutR s e (b + x.2) t) ++ pieceR (b + lenR (x :: t)) s e r
    rw [cutR_snoc s e t, lenR_cons, List.append_assoc, Int.add_assoc]
theorem pieceR_len (b s e : Int) (r : Run) : (pieceR b s e r).length ≤ 1 := by
  unfold pieceR
  split <;> simp
theorem cutR_len (s e : Int) : ∀ (l : List Run) (b : Int), (cutR s e b l).length ≤ l.length
  | [], _ => Nat.le_refl _
  | r :: t, b => by
    show (pieceR b s e r ++ cutR s e (b + r.2) t).length ≤ (r :: t).length
    have h1 := pieceR_len b s e r
    have h2 := cutR_len s e t (b + r.2)
    rw [List.length_append, List.length_cons]
    omega
section
variable {P : Program} {w : World} {K : PySem.W.Frag} {mg : Str → Option Value} {base : Heap}
/-! cut: slots 0:runs 1:start 2:length 3:end 4:part 5:before 6:kind 7:count 8:after 9:size -/
abbrev s_cut : Stmt := topS 22
theorem sc_cut : FnScope ["runs", "start", "length", "end", "part", "before", "kind", "count", "after", "size"] ["runs", "start", "length"] (defScope s_cut) := ⟨rfl, rfl, rfl, by decide +kernel, rfl, by decide +kernel, by decide +kernel⟩
def sp_cut : Sp := fun vs H Q _ => ∃ (a : Addr) (rs : List Run) (s l : Int), vs = [.ref a, .int s, .int l] ∧ Runs H a rs ∧ rs.length ≤ 1000 ∧ ∀ H' p, Same H H' → H p = none → Runs H' p (cutR s (s + l) 0 rs) → Q (.ref p) H'
theorem ok_cut (D : Df K mg "cut" s_cut) (T : Tx mg) : Has P w K mg base 1 "cut" ["runs", "start", "length"] sp_cut := by
  refine has_of D sc_cut (fun _ _ _ _ _ _ us hl => match us, hl with | [_, _, _], _ => rfl) (fun vs H Q E h => ?_) (fun f cdv A outer s₀ H vs Q E hr h => ?_)
  · obtain ⟨a, rs, s, l, rfl, _⟩ := h
    rfl
  · obtain ⟨a, rs, s, l, rfl, ⟨xs, hx, hp⟩, l4, q⟩ := h
    have lx : xs.length = rs.length := Paired.len hp
    refine ⟨_, (pss_cons (ps_set (i := 3) sc_cut.nd rfl (by first | exact Or.inl rfl | exact Or.inr rfl) (pe_op op_add (pv 1) (pv 2)))
    (pss_cons (ps_set (i := 4) sc_cut.nd rfl (by first | exact Or.inl rfl | exact Or.inr rfl) (pe_lst pa_nil))
    (pss_cons (ps_set (i := 5) sc_cut.nd rfl (by first | exact Or.inl rfl | exact Or.inr rfl) pe_int)
    (pss_cons (ps_for PassesOwn.never rfl (pi_list (pv 0)) (pg_tup rfl (pgs_cons (pg_name (i := 6) sc_cut.nd rfl (by first | exact Or.inl rfl | exact Or.inr rfl)) (pgs_cons (pg_name (i := 7) sc_cut.nd rfl (by first | exact Or.inl rfl | exact Or.inr rfl)) pgs_nil)))
      (pss_cons (ps_set (i := 8) sc_cut.nd rfl (by first | exact Or.inl rfl | exact Or.inr rfl) (pe_op op_add (pv 5) (pv 7)))
    (pss_cons (ps_set (i := 9) sc_cut.nd rfl (by first | exact Or.inl rfl | exact Or.inr rfl) (pe_op op_sub (pe_callB (call_min2 rfl) (by rfl) T.n_min (by decide +kernel) (pa_cons (pv 3) (pa_cons (pv 8) pa_nil))) (pe_callB (call_max2 rfl) (by rfl) T.n_max (by decide +kernel) (pa_cons (pv 1) (pa_cons (pv 5) pa_nil)))))
    (pss_cons (ps_if (pt_cmpR op_gt (pv 9) pe_int (nomark _)) (pss_one (ps_expr (pe_bm PySem.F.plainAttrs_list PySem.F.slot_list_append PySem.F.type_list_append mt_append (pv 4) (pa_cons (pe_tup (pa_cons (pv 6) (pa_cons (pv 9) pa_nil))) pa_nil)))) pss_nil)
    (pss_one (ps_set (i := 5) sc_cut.nd rfl (by first | exact Or.inl rfl | exact Or.inr rfl) (pv 8)))))))
    (pss_one (ps_ret (pv 4))))))), ?_⟩
    refine ⟨_, rfl, _, rfl, _, _, rfl, rfl, Nat.zero_le _, fun p np => ?_⟩
    refine ⟨_, rfl, a, rfl, ⟨xs, .of (same_upd np _ _ hx)⟩, for_list (K := K) (a := a) (xs := xs) (fun i σ H' => ∃ b y6 y7 y8 y9, b = lenR (rs.take i) ∧ σ = [some (.ref a), some (.int s), some (.int l), some (.int (s + l)), some (.ref p), some (.int b), y6, y7, y8, y9] ∧ Same H H' ∧ ∃ ys, H' p = some (.lst ys) ∧ Paired (RunV H') ys (cutR s (s + l) 0 (rs.take i)))
      ⟨0, none, none, none, none, rfl, rfl, same_upd np, [], upd_same, .nil⟩ (fun i σ H' _ hP => ?_) (fun i x σ H1 ex hP => ?_) (fun σ H1 hP => ?_)⟩
    · obtain ⟨_, _, _, _, _, _, _, sm, _⟩ := hP
      exact .of (sm _ _ hx)
    · obtain ⟨b, y6, y7, y8, y9, rfl, rfl, sm, ys, hL, hy⟩ := hP
      obtain ⟨r, er, hr1⟩ := Paired.at hp ex
      have hi : i < xs.length := (List.getElem?_eq_some_iff.mp ex).1
      obtain ⟨t, rfl, ht⟩ := RunV.same sm hr1
      have el : lenR (rs.take (i + 1)) = lenR (rs.take i) + r.2 := by rw [take_snoc er, lenR_snoc]
      have ec : cutR s (s + l) 0 (rs.take (i + 1)) = cutR s (s + l) 0 (rs.take i) ++ pieceR (lenR (rs.take i)) s (s + l) r := by
        rw [take_snoc er, cutR_snoc, Int.zero_add]
      refine ⟨t, _, rfl, .of ht, rfl, _, _, rfl, _, _, rfl, rfl, ?_⟩
      refine ⟨_, rfl, _, rfl, _, _, rfl, rfl, ?_⟩
      refine ⟨_, rfl, _, rfl, _, _, rfl, _, rfl, _, rfl, _, _, rfl, _, _, rfl, rfl, ?_⟩
      refine ⟨_, rfl, _, _, rfl, rfl, _, rfl, ite2 (fun e => ?_) (fun e => ?_)⟩
      · have e : 0 < sizeR (lenR (rs.take i)) s (s + l) r.2 := of_decide_eq_true e
        have epc : pieceR (lenR (rs.take i)) s (s + l) r = [(r.1, sizeR (lenR (rs.take i)) s (s + l) r.2)] := if_pos e
        refine ⟨_, rfl, .inl ⟨rfl, _, SqL.of hL⟩, _, rfl, _, rfl, (by show 2 ≤ sizeLine; decide), fun n nn => ⟨p, _, _, rfl, rfl, same_upd nn _ _ hL, ?_, ?_⟩⟩
        · have h1 := Paired.len hy
          have h2 := cutR_len s (s + l) (rs.take i) 0
          rw [List.length_take] at h2
          exact small (by omega)
        · refine ⟨_, rfl, _, _, _, _, _, el.symm, rfl, same_grow np (sm.trans (same_upd nn)), _, upd_same, ?_⟩
          · rw [ec, epc]
            exact Paired.app (prs_grow (same_upd nn _ _ hL) (prs_same (same_upd nn) hy)) (.cons (RunV.grow (same_upd nn _ _ hL) ⟨n, rfl, upd_same⟩) .nil)
      · have e : ¬ 0 < sizeR (lenR (rs.take i)) s (s + l) r.2 := fun z => e (decide_eq_true z)
        have epc : pieceR (lenR (rs.take i)) s (s + l) r = [] := if_neg e
        refine ⟨_, rfl, _, _, _, _, _, el.symm, rfl, sm, _, hL, ?_⟩
        · rw [ec, epc, List.append_nil]
          exact hy
    · obtain ⟨b, y6, y7, y8, y9, rfl, rfl, sm, ys, hL, hy⟩ := hP
      rw [lx, List.take_length] at hy
      exact ⟨_, rfl, q H1 p sm np ⟨ys, hL, hy⟩⟩
end
end UP

set_option Elab.async false
set_option linter.all false
set_option maxRecDepth 100000
set_option maxHeartbeats 4000000
namespace UP
open PySem PySem.Spec PyProof.Rows L2
/-! ### the mirror of the states -/
def numR : Option Run → Int
  | none => 0
  | some r => r.2
def leavR : Option Run → Str → Int → Int
  | none, _, _ => 0
  | some r, k, c => if r.1 = k then 0 else if c < r.2 then c else r.2
def stepR : Option Run → Str → Int → Option Run
  | some r, k, c => if r.1 = k then some (k, r.2 + c) else if 0 < r.2 - c then some (r.1, r.2 - c) else if r.2 - c = 0 then none else some (k, -(r.2 - c))
  | none, k, c => some (k, c)
def withR (k : Str) (n : Int) : Option Run := if n = 0 then none else some (k, n)
def stR (rs : List Run) (st : Option Run) : Option Run := rs.foldl (fun s r => stepR s r.1 r.2) st
theorem stR_snoc (l : List Run) (r : Run) (st : Option Run) : stR (l ++ [r]) st = stepR (stR l st) r.1 r.2 := by
  unfold stR
  rw [List.foldl_append]
  rfl
section
variable {P : Program} {w : World} {K : PySem.W.Frag} {mg : Str → Option Value} {base : Heap}
/-! part_of: slots 0:sequence 1:start 2:length 3:runs 4:total -/
abbrev s_part_of : Stmt := topS 24
theorem sc_part_of : FnScope ["sequence", "start", "length", "runs", "total"] ["sequence", "start", "length"] (defScope s_part_of) := ⟨rfl, rfl, rfl, by decide +kernel, rfl, by decide +kernel, by decide +kernel⟩
def sp_part_of : Sp := fun vs H Q _ => ∃ (a : V) (rs : List Run) (s l : Int), vs = [a, .int s, .int l] ∧ RunsG H a rs ∧ SeqOk rs ∧ 0 ≤ s ∧ 0 ≤ l ∧ s + l ≤ lenR rs ∧ ∀ H' p, Same H H' → H p = none → Runs H' p (cutR s (s + l) 0 rs) → Q (.ref p) H'
theorem ok_part_of (D : Df K mg "part_of" s_part_of) (T : Tx mg) (G_checked_runs : Has P w K mg base 5 "checked_runs" ["sequence"] sp_checked_runs) (G_length_of : Has P w K mg base 1 "length_of" ["runs"] sp_length_of) (G_is_within : Has P w K mg base 2 "is_within" ["value", "low", "high"] sp_is_within) (G_cut : Has P w K mg base 1 "cut" ["runs", "start", "length"] sp_cut) :
    Has P w K mg base 6 "part_of" ["sequence", "start", "length"] sp_part_of := by
  refine has_of D sc_part_of (fun _ _ _ _ _ _ us hl => match us, hl with | [_, _, _], _ => rfl) (fun vs H Q E h => ?_) (fun f cdv A outer s₀ H vs Q E hr h => ?_)
  · obtain ⟨a, rs, s, l, rfl, _⟩ := h
    rfl
  · obtain ⟨a, rs, s, l, rfl, hR, ok, h0, h1, h2, q⟩ := h
    refine ⟨_, (pss_cons (ps_set (i := 3) sc_part_of.nd rfl (by first | exact Or.inl rfl | exact Or.inr rfl) (pe_callH G_checked_runs (hr.mono (by omega)) (by rfl) (pa_cons (pv 0) pa_nil)))
    (pss_cons (ps_set (i := 4) sc_part_of.nd rfl (by first | exact Or.inl rfl | exact Or.inr rfl) (pe_callH G_length_of (hr.mono (by omega)) (by rfl) (pa_cons (pv 3) pa_nil)))
    (pss_cons (ps_if (pt_not (pt_val (pe_callH G_is_within (hr.mono (by omega)) (by rfl) (pa_cons (pv 1) (pa_cons pe_int (pa_cons (pv 4) pa_nil)))))) (pss_one ps_never) pss_nil)
    (pss_cons (ps_if (pt_not (pt_val (pe_callH G_is_within (hr.mono (by omega)) (by rfl) (pa_cons (pv 2) (pa_cons pe_int (pa_cons (pe_op op_sub (pv 4) (pv 1)) pa_nil)))))) (pss_one ps_never) pss_nil)
    (pss_one (ps_ret (pe_callH G_cut (hr.mono (by omega)) (by rfl) (pa_cons (pv 3) (pa_cons (pv 1) (pa_cons (pv 2) pa_nil)))))))))), ?_⟩
    refine ⟨_, rfl, a, rs, rfl, hR, ok, fun H1 p s1 np hp => ?_⟩
    have l4 : rs.length ≤ 1000 := by have := ok.1; omega
    refine ⟨_, rfl, p, rs, rfl, hp, l4, fun H2 s2 => ?_⟩
    refine ⟨_, rfl, _, rfl, s, 0, _, rfl, _, rfl, iteN ?_ ?_⟩
    · rw [decide_eq_true (by omega)]
      rfl
    refine ⟨_, rfl, _, rfl, _, rfl, _, _, rfl, rfl, l, 0, _, rfl, _, rfl, iteN ?_ ?_⟩
    · rw [decide_eq_true (by omega)]
      rfl
    exact ⟨_, rfl, _, rfl, _, rfl, p, rs, s, l, rfl, hp.same s2, l4, fun H3 p3 s3 n3 h3 => q H3 p3 (s1.trans (s2.trans s3)) ((s1.trans s2).free n3) h3⟩
/-! waiting_number: slots 0:state -/
abbrev s_waiting_number : Stmt := topS 26
theorem sc_waiting_number : FnScope ["state"] ["state"] (defScope s_waiting_number) := ⟨rfl, rfl, rfl, by decide +kernel, rfl, by decide +kernel, by decide +kernel⟩
def sp_waiting_number : Sp := fun vs H Q _ => ∃ (v : V) (st : Option Run), vs = [v] ∧ StV H v st ∧ Q (.int (numR st)) H
theorem ok_waiting_number (D : Df K mg "waiting_number" s_waiting_number) : Has P w K mg base 1 "waiting_number" ["state"] sp_waiting_number := by
  refine has_of D sc_waiting_number (fun _ _ _ _ _ _ us hl => match us, hl with | [_], _ => rfl) (fun vs H Q E h => ?_) (fun f cdv A outer s₀ H vs Q E hr h => ?_)
  · obtain ⟨a, rs, rfl, _⟩ := h
    rfl
  · obtain ⟨v, st, rfl, hv, q⟩ := h
    refine ⟨_, (pss_one (ps_ret (pe_ifExp (pt_cmpR op_isN (pv 0) pe_non (nomark _)) pe_int (pe_ix ix_tup (pv 0) pe_int (fun _ _ => rfl))))), ?_⟩
    cases st with
    | none =>
      cases hv
      exact ⟨_, rfl, rfl, _, rfl, iteP rfl q⟩
    | some r =>
      obtain ⟨t, rfl, ht⟩ := hv
      exact ⟨_, rfl, rfl, _, rfl, iteN rfl ⟨_, rfl, t, _, 1, _, rfl, rfl, .of ht, at1, q⟩⟩
/-! leaving_number: slots 0:state 1:kind 2:count -/
abbrev s_leaving_number : Stmt := topS 28
theorem sc_leaving_number : FnScope ["state", "kind", "count"] ["state", "kind", "count"] (defScope s_leaving_number) := ⟨rfl, rfl, rfl, by decide +kernel, rfl, by decide +kernel, by decide +kernel⟩
def sp_leaving_number : Sp := fun vs H Q _ => ∃ (v : V) (st : Option Run) (k : Str) (c : Int), vs = [v, .str k, .int c] ∧ StV H v st ∧ Q (.int (leavR st k c)) H
theorem ok_leaving_number (D : Df K mg "leaving_number" s_leaving_number) (T : Tx mg) : Has P w K mg base 1 "leaving_number" ["state", "kind", "count"] sp_leaving_number := by
  refine has_of D sc_leaving_number (fun _ _ _ _ _ _ us hl => match us, hl with | [_, _, _], _ => rfl) (fun vs H Q E h => ?_) (fun f cdv A outer s₀ H vs Q E hr h => ?_)
  · obtain ⟨a, rs, _, _, rfl, _⟩ := h
    rfl
  · obtain ⟨v, st, k, c, rfl, hv, q⟩ := h
    refine ⟨_, (pss_cons (ps_if (PW.pt (pw_or (pt_cmpR op_isN (pv 0) pe_non (nomark _)) (pw_or1 (pt_cmpR op_eq (pe_ix ix_tup (pv 0) pe_int (fun _ _ => rfl)) (pv 1) (nomark _))))) (pss_one (ps_ret pe_int)) pss_nil)
    (pss_one (ps_ret (pe_callB (call_min2 rfl) (by rfl) T.n_min (by decide +kernel) (pa_cons (pe_ix ix_tup (pv 0) pe_int (fun _ _ => rfl)) (pa_cons (pv 2) pa_nil)))))), ?_⟩
    cases st with
    | none =>
      cases hv
      exact ⟨_, rfl, rfl, _, rfl, iteP rfl (iteT q)⟩
    | some r =>
      obtain ⟨t, rfl, ht⟩ := hv
      refine ⟨_, rfl, rfl, _, rfl, iteN rfl ⟨_, rfl, t, _, 0, _, rfl, rfl, .of ht, at0, _, rfl, rfl, _, rfl, ?_⟩⟩
      by_cases e : r.1 = k
      · refine iteP (by rw [e]; exact decide_eq_true rfl) ?_
        rw [show leavR (some r) k c = 0 from if_pos e] at q
        exact q
      · refine iteN (decide_eq_false fun z => e (V.str.inj z)) ⟨_, rfl, t, _, 1, _, rfl, rfl, .of ht, at1, _, rfl, _, _, rfl, ?_⟩
        rw [show leavR (some r) k c = if c < r.2 then c else r.2 from if_neg e] at q
        exact q
/-! state_with: slots 0:kind 1:number -/
abbrev s_state_with : Stmt := topS 27
theorem sc_state_with : FnScope ["kind", "number"] ["kind", "number"] (defScope s_state_with) := ⟨rfl, rfl, rfl, by decide +kernel, rfl, by decide +kernel, by decide +kernel⟩
def sp_state_with : Sp := fun vs H Q _ => ∃ (k : Str) (n : Int), vs = [.str k, .int n] ∧ ∀ H' v', Same H H' → StV H' v' (withR k n) → Q v' H'
theorem ok_state_with (D : Df K mg "state_with" s_state_with) : Has P w K mg base 1 "state_with" ["kind", "number"] sp_state_with := by
  refine has_of D sc_state_with (fun _ _ _ _ _ _ us hl => match us, hl with | [_, _], _ => rfl) (fun vs H Q E h => ?_) (fun f cdv A outer s₀ H vs Q E hr h => ?_)
  · obtain ⟨k, n, rfl, _⟩ := h
    rfl
  · obtain ⟨k, n, rfl, q⟩ := h
    refine ⟨_, (pss_one (ps_ret (pe_ifExp (pt_cmpR op_eq (pv 1) pe_int (nomark _)) pe_non (pe_tup (pa_cons (pv 0) (pa_cons (pv 1) pa_nil)))))), ?_⟩
    refine ⟨_, rfl, rfl, _, rfl, ?_⟩
    by_cases e : n = 0
    · rw [show withR k n = none from if_pos e] at q
      exact iteP (decide_eq_true (by rw [e])) (q _ _ (Same.refl _) rfl)
    · rw [show withR k n = some (k, n) from if_neg e] at q
      refine iteN (decide_eq_false fun z => e (V.int.inj z)) ?_
      exact ⟨_, rfl, _, rfl, (by show 2 ≤ sizeLine; decide), fun n' nn => q _ _ (same_upd nn) ⟨n', rfl, upd_same⟩⟩
/-! state_after_run: slots 0:state 1:kind 2:count 3:left_over -/
abbrev s_state_after_run : Stmt := topS 29
theorem sc_state_after_run : FnScope ["state", "kind", "count", "left_over"] ["state", "kind", "count"] (defScope s_state_after_run) := ⟨rfl, rfl, rfl, by decide +kernel, rfl, by decide +kernel, by decide +kernel⟩
def sp_state_after_run : Sp := fun vs H Q _ => ∃ (v : V) (st : Option Run) (k : Str) (c : Int), vs = [v, .str k, .int c] ∧ StV H v st ∧ 1 ≤ c ∧ ∀ H' v', Same H H' → StV H' v' (stepR st k c) → Q v' H'
theorem ok_state_after_run (D : Df K mg "state_after_run" s_state_after_run) (G_waiting_number : Has P w K mg base 1 "waiting_number" ["state"] sp_waiting_number) (G_state_with : Has P w K mg base 1 "state_with" ["kind", "number"] sp_state_with) : Has P w K mg base 2 "state_after_run" ["state", "kind", "count"] sp_state_after_run := by
  refine has_of D sc_state_after_run (fun _ _ _ _ _ _ us hl => match us, hl with | [_, _, _], _ => rfl) (fun vs H Q E h => ?_) (fun f cdv A outer s₀ H vs Q E hr h => ?_)
  · obtain ⟨a, rs, _, _, rfl, _⟩ := h
    rfl
  · obtain ⟨v, st, k, c, rfl, hv, hc, q⟩ := h
    refine ⟨_, (pss_cons (ps_if (PW.pt (pw_and (pt_cmpR op_notN (pv 0) pe_non (nomark _)) (pw_and1 (pt_cmpR op_eq (pe_ix ix_tup (pv 0) pe_int (fun _ _ => rfl)) (pv 1) (nomark _))))) (pss_one (ps_ret (pe_tup (pa_cons (pv 1) (pa_cons (pe_op op_add (pe_ix ix_tup (pv 0) pe_int (fun _ _ => rfl)) (pv 2)) pa_nil))))) pss_nil)
    (pss_cons (ps_set (i := 3) sc_state_after_run.nd rfl (by first | exact Or.inl rfl | exact Or.inr rfl) (pe_op op_sub (pe_callH G_waiting_number (hr.mono (by omega)) (by rfl) (pa_cons (pv 0) pa_nil)) (pv 2)))
    (pss_cons (ps_if (pt_cmpR op_gt (pv 3) pe_int (nomark _)) (pss_one (ps_ret (pe_tup (pa_cons (pe_ix ix_tup (pv 0) pe_int (fun _ _ => rfl)) (pa_cons (pv 3) pa_nil))))) pss_nil)
    (pss_one (ps_ret (pe_callH G_state_with (hr.mono (by omega)) (by rfl) (pa_cons (pv 1) (pa_cons (pe_un un_neg (pv 3)) pa_nil)))))))), ?_⟩
    cases st with
    | none =>
      cases hv
      refine ⟨_, rfl, rfl, _, rfl, iteN rfl (iteF ?_)⟩
      refine ⟨_, rfl, _, none, rfl, rfl, _, rfl, _, _, rfl, rfl, ?_⟩
      refine ⟨_, rfl, _, _, rfl, rfl, _, rfl, iteN (decide_eq_false (by show ¬ (0 : Int) < 0 - c; omega)) ?_⟩
      refine ⟨_, rfl, _, rfl, _, rfl, k, -(0 - c), rfl, fun H' v' s h => q H' v' s ?_⟩
      have e : withR k (-(0 - c)) = some (k, c) := by
        unfold withR
        rw [if_neg (by omega), show -(0 - c) = c by omega]
      rw [e] at h
      exact h
    | some r =>
      obtain ⟨t, rfl, ht⟩ := hv
      refine ⟨_, rfl, rfl, _, rfl, iteP rfl ⟨_, rfl, t, _, 0, _, rfl, rfl, .of ht, at0, _, rfl, rfl, _, rfl, ?_⟩⟩
      by_cases e : r.1 = k
      · have es : stepR (some r) k c = some (k, r.2 + c) := if_pos e
        rw [es] at q
        refine iteP (by rw [e]; exact decide_eq_true rfl) ?_
        exact ⟨_, rfl, _, rfl, t, _, 1, _, rfl, rfl, .of ht, at1, _, rfl, _, _, rfl, rfl, (by show 2 ≤ sizeLine; decide), fun n nn => q _ _ (same_upd nn) ⟨n, rfl, upd_same⟩⟩
      · refine iteN (decide_eq_false fun z => e (V.str.inj z)) ?_
        have es : stepR (some r) k c = if 0 < r.2 - c then some (r.1, r.2 - c) else if r.2 - c = 0 then none else some (k, -(r.2 - c)) := if_neg e
        rw [es] at q
        refine ⟨_, rfl, _, some r, rfl, ⟨t, rfl, ht⟩, _, rfl, _, _, rfl, rfl, ?_⟩
        refine ⟨_, rfl, _, _, rfl, rfl, _, rfl, ?_⟩
        by_cases e1 : 0 < r.2 - c
        · rw [if_pos e1] at q
          refine iteP (decide_eq_true e1) ?_
          exact ⟨_, rfl, t, _, 0, _, rfl, rfl, .of ht, at0, _, rfl, (by show 2 ≤ sizeLine; decide), fun n nn => q _ _ (same_upd nn) ⟨n, rfl, upd_same⟩⟩
        · rw [if_neg e1] at q
          refine iteN (decide_eq_false e1) ⟨_, rfl, _, rfl, _, rfl, k, -(r.2 - c), rfl, fun H' v' s h => q H' v' s ?_⟩
          have e3 : withR k (-(r.2 - c)) = if r.2 - c = 0 then none else some (k, -(r.2 - c)) := by
            unfold withR
            by_cases e2 : r.2 - c = 0
            · rw [if_pos e2, if_pos (by omega)]
            · rw [if_neg e2, if_neg (by omega)]
          rw [e3] at h
          exact h
/-! state_after_runs: slots 0:runs 1:state 2:kind 3:count -/
abbrev s_state_after_runs : Stmt := topS 30
theorem sc_state_after_runs : FnScope ["runs", "state", "kind", "count"] ["runs", "state"] (defScope s_state_after_runs) := ⟨rfl, rfl, rfl, by decide +kernel, rfl, by decide +kernel, by decide +kernel⟩
def sp_state_after_runs : Sp := fun vs H Q _ => ∃ (a : Addr) (rs : List Run) (v : V) (st : Option Run), vs = [.ref a, v] ∧ Runs H a rs ∧ (∀ r ∈ rs, 1 ≤ r.2) ∧ StV H v st ∧ ∀ H' v', Same H H' → StV H' v' (stR rs st) → Q v' H'
theorem ok_state_after_runs (D : Df K mg "state_after_runs" s_state_after_runs) (G_state_after_run : Has P w K mg base 2 "state_after_run" ["state", "kind", "count"] sp_state_after_run) : Has P w K mg base 3 "state_after_runs" ["runs", "state"] sp_state_after_runs := by
  refine has_of D sc_state_after_runs (fun _ _ _ _ _ _ us hl => match us, hl with | [_, _], _ => rfl) (fun vs H Q E h => ?_) (fun f cdv A outer s₀ H vs Q E hr h => ?_)
  · obtain ⟨a, rs, _, _, rfl, _⟩ := h
    rfl
  · obtain ⟨a, rs, v, st, rfl, ⟨xs, hx, hp⟩, pos, hv, q⟩ := h
    have lx : xs.length = rs.length := Paired.len hp
    refine ⟨_, (pss_cons (ps_for PassesOwn.never rfl (pi_list (pv 0)) (pg_tup rfl (pgs_cons (pg_name (i := 2) sc_state_after_runs.nd rfl (by first | exact Or.inl rfl | exact Or.inr rfl)) (pgs_cons (pg_name (i := 3) sc_state_after_runs.nd rfl (by first | exact Or.inl rfl | exact Or.inr rfl)) pgs_nil)))
      (pss_one (ps_set (i := 1) sc_state_after_runs.nd rfl (by first | exact Or.inl rfl | exact Or.inr rfl) (pe_callH G_state_after_run (hr.mono (by omega)) (by rfl) (pa_cons (pv 1) (pa_cons (pv 2) (pa_cons (pv 3) pa_nil)))))))
    (pss_one (ps_ret (pv 1)))), ?_⟩
    refine ⟨_, rfl, a, rfl, ⟨xs, .of hx⟩, for_list (K := K) (a := a) (xs := xs) (fun i σ H' => ∃ v' y2 y3, σ = [some (.ref a), some v', y2, y3] ∧ Same H H' ∧ StV H' v' (stR (rs.take i) st))
      ⟨v, none, none, rfl, Same.refl H, hv⟩ (fun i σ H' _ hP => ?_) (fun i x σ H1 ex hP => ?_) (fun σ H1 hP => ?_)⟩
    · obtain ⟨_, _, _, _, sm, _⟩ := hP
      exact .of (sm _ _ hx)
    · obtain ⟨v', y2, y3, rfl, sm, hv'⟩ := hP
      obtain ⟨r, er, hr1⟩ := Paired.at hp ex
      obtain ⟨t, rfl, ht⟩ := RunV.same sm hr1
      refine ⟨t, _, rfl, .of ht, rfl, _, _, rfl, _, _, rfl, rfl, ?_⟩
      refine ⟨_, rfl, _, rfl, _, rfl, v', _, r.1, r.2, rfl, hv', pos r (List.mem_of_getElem? er), fun H2 v2 s2 h2 => ⟨v2, _, _, rfl, sm.trans s2, ?_⟩⟩
      rw [take_snoc er, stR_snoc]
      exact h2
    · obtain ⟨v', y2, y3, rfl, sm, hv'⟩ := hP
      rw [lx, List.take_length] at hv'
      exact ⟨_, rfl, q H1 v' sm hv'⟩
/-! check_moment: slots 0:runs 1:moment -/
abbrev s_check_moment : Stmt := topS 31
theorem sc_check_moment : FnScope ["runs", "moment"] ["runs", "moment"] (defScope s_check_moment) := ⟨rfl, rfl, rfl, by decide +kernel, rfl, by decide +kernel, by decide +kernel⟩
def sp_check_moment : Sp := fun vs H Q _ => ∃ (a : Addr) (rs : List Run) (m : Int), vs = [.ref a, .int m] ∧ Runs H a rs ∧ rs.length ≤ 1000 ∧ 0 ≤ m ∧ m ≤ lenR rs ∧ ∀ H', Same H H' → Q .non H'
theorem ok_check_moment (D : Df K mg "check_moment" s_check_moment) (G_is_within : Has P w K mg base 2 "is_within" ["value", "low", "high"] sp_is_within) (G_length_of : Has P w K mg base 1 "length_of" ["runs"] sp_length_of) : Has P w K mg base 3 "check_moment" ["runs", "moment"] sp_check_moment := by
  refine has_of D sc_check_moment (fun _ _ _ _ _ _ us hl => match us, hl with | [_, _], _ => rfl) (fun vs H Q E h => ?_) (fun f cdv A outer s₀ H vs Q E hr h => ?_)
  · obtain ⟨a, rs, _, rfl, _⟩ := h
    rfl
  · obtain ⟨a, rs, m, rfl, hR, l4, h0, h1, q⟩ := h
    refine ⟨_, (pss_one (ps_if (pt_not (pt_val (pe_callH G_is_within (hr.mono (by omega)) (by rfl) (pa_cons (pv 1) (pa_cons pe_int (pa_cons (pe_callH G_length_of (hr.mono (by omega)) (by rfl) (pa_cons (pv 0) pa_nil)) pa_nil)))))) (pss_one ps_never) pss_nil)), ?_⟩
    refine ⟨_, rfl, _, rfl, a, rs, rfl, hR, l4, fun H2 s2 => ⟨m, 0, _, rfl, _, rfl, iteN ?_ (q H2 s2)⟩⟩
    rw [decide_eq_true (by omega)]
    rfl
/-! check_position: slots 0:runs 1:position -/
abbrev s_check_position : Stmt := topS 19
theorem sc_check_position : FnScope ["runs", "position"] ["runs", "position"] (defScope s_check_position) := ⟨rfl, rfl, rfl, by decide +kernel, rfl, by decide +kernel, by decide +kernel⟩
def sp_check_position : Sp := fun vs H Q _ => ∃ (a : Addr) (rs : List Run) (m : Int), vs = [.ref a, .int m] ∧ Runs H a rs ∧ rs.length ≤ 1000 ∧ 0 ≤ m ∧ m < lenR rs ∧ ∀ H', Same H H' → Q .non H'
theorem ok_check_position (D : Df K mg "check_position" s_check_position) (G_is_within : Has P w K mg base 2 "is_within" ["value", "low", "high"] sp_is_within) (G_length_of : Has P w K mg base 1 "length_of" ["runs"] sp_length_of) : Has P w K mg base 3 "check_position" ["runs", "position"] sp_check_position := by
  refine has_of D sc_check_position (fun _ _ _ _ _ _ us hl => match us, hl with | [_, _], _ => rfl) (fun vs H Q E h => ?_) (fun f cdv A outer s₀ H vs Q E hr h => ?_)
  · obtain ⟨a, rs, _, rfl, _⟩ := h
    rfl
  · obtain ⟨a, rs, m, rfl, hR, l4, h0, h1, q⟩ := h
    refine ⟨_, (pss_one (ps_if (pt_not (pt_val (pe_callH G_is_within (hr.mono (by omega)) (by rfl) (pa_cons (pv 1) (pa_cons pe_int (pa_cons (pe_op op_sub (pe_callH G_length_of (hr.mono (by omega)) (by rfl) (pa_cons (pv 0) pa_nil)) pe_int) pa_nil)))))) (pss_one ps_never) pss_nil)), ?_⟩
    refine ⟨_, rfl, _, rfl, a, rs, rfl, hR, l4, fun H2 s2 => ⟨_, _, rfl, rfl, m, 0, _, rfl, _, rfl, iteN ?_ (q H2 s2)⟩⟩
    rw [decide_eq_true (by omega)]
    rfl
end
end UP

set_option Elab.async false
set_option linter.all false
set_option maxRecDepth 100000
set_option maxHeartbeats 4000000
namespace UP
open PySem PySem.Spec PyProof.Rows L2
def DfD (K : PySem.W.Frag) (mg : Str → Option Value) (x : Str) (st : Stmt) (dvs : List V) : Prop := ∃ f fd, mg x = some (.ref f) ∧ FunD K x x (defArgs st) (defBody st) (defScope st) dvs [] f fd
/-- a def whose last parameter, kw, has the default None -/
def HasD (P : Program) (w : World) (K : PySem.W.Frag) (mg : Str → Option Value) (base : Heap) (k : Nat) (x : Str) (ps : List Str) (n : Nat) (kw : Str) (sp : Sp) : Prop :=
  ∃ f fd, mg x = some (.ref f) ∧ PySem.W.keepIn K (.ref f) = true ∧ Binds K fd ps [] ∧ (∃ ds, Vals [.non] ds ∧ Binds K fd ps ds) ∧ KBn K fd ps n [kw] (fun us ws => us ++ ws) (fun vs zs => vs ++ zs) ∧ FnOk P w K mg base CX0 k f fd ps sp
section
variable {P : Program} {w : World} {K : PySem.W.Frag} {mg : Str → Option Value} {base : Heap}
theorem HasD.has {k n : Nat} {x kw : Str} {ps : List Str} {sp : Sp} (h : HasD P w K mg base k x ps n kw sp) : Has P w K mg base k x ps sp := by
  obtain ⟨f, fd, g, kp, b, _, _, F⟩ := h
  exact ⟨f, fd, g, kp, b, F⟩
theorem has_ofD {x kw : Str} {st : Stmt} {ps N : List Str} {k n : Nat} {sp : Sp} (D : DfD K mg x st [.non]) (S : FnScope N ps (defScope st)) (hpn : ps.length = n + 1)
    (hb : ∀ (T : Addr) (kV doc pm : Value) (an : Option Addr) (cdv ct : Value) (us its : List Value), us.length = n + 1 → its.length = 1 →
      ∃ k, bindArgs (PySem.W.fnOf x x (defArgs st) (defBody st) (defScope st) (.ref T) kV doc pm an cdv ct) ⟨us, []⟩ = seqItems? (.ref T) >>= k ∧ k (some its.toArray) = pure (ps.zip us))
    (hb1 : ∀ (T : Addr) (kV doc pm : Value) (an : Option Addr) (cdv ct : Value) (us its : List Value), us.length = n → its.length = 1 →
      ∃ k, bindArgs (PySem.W.fnOf x x (defArgs st) (defBody st) (defScope st) (.ref T) kV doc pm an cdv ct) ⟨us, []⟩ = seqItems? (.ref T) >>= k ∧ k (some its.toArray) = pure (ps.zip (us ++ its)))
    (hb2 : ∀ (T : Addr) (kV doc pm : Value) (an : Option Addr) (cdv ct : Value) (us its : List Value) (v : Value), us.length = n → its.length = 1 →
      ∃ k, bindArgs (PySem.W.fnOf x x (defArgs st) (defBody st) (defScope st) (.ref T) kV doc pm an cdv ct) ⟨us, [(kw, v)]⟩ = seqItems? (.ref T) >>= k ∧ k (some its.toArray) = pure (ps.zip (us ++ [v])))
    (len : ∀ vs H Q E, sp vs H Q E → vs.length = ps.length)
    (body : ∀ (f : Addr) (cdv : Value) (A : Around) (outer : List Env) (s : Shared) (H : Hp) (vs : List V) (Q : VK) (E : XK), Room k (A.deeper (envOfC x (defScope st) s.heap.objs.size f cdv)) → sp vs H Q E →
      ∃ t, PSs (cxOf CX0 P w K mg base N x (defScope st) f cdv A outer s H E).nox (defBody st) t ∧ t { nx := fun _ H' => Q .non H', rt := Q } (start N vs) H) :
    HasD P w K mg base (k + 1) x ps n kw sp := by
  obtain ⟨f, fd, g, F⟩ := D
  have B0 : Binds K fd ps [] := by
    obtain ⟨ds, v, b⟩ := F.binds1 (n + 1) 1 (ps := ps) (by intro z; cases z) (by rw [hpn]; rfl) fun T kV doc pm an cdv ct us its h1 h2 => by
      obtain ⟨k, e1, e2⟩ := hb T kV doc pm an cdv ct us its h1 h2
      refine ⟨k, e1, ?_⟩
      have h3 : its.length ≤ 1 := Nat.le_of_eq h2
      rw [e2, List.drop_of_length_le h3, List.append_nil]
    cases v
    exact b
  have B1 : ∃ ds, Vals [V.non] ds ∧ Binds K fd ps ds := by
    obtain ⟨ds, v, b⟩ := F.binds1 n 0 (ps := ps) (by intro z; cases z) (by rw [hpn]; rfl) fun T kV doc pm an cdv ct us its h1 h2 => by
      obtain ⟨k, e1, e2⟩ := hb1 T kV doc pm an cdv ct us its h1 h2
      exact ⟨k, e1, by rw [e2, List.drop_zero]⟩
    exact ⟨ds, v, b⟩
  have B2 : KBn K fd ps n [kw] (fun us ws => us ++ ws) (fun vs zs => vs ++ zs) := by
    refine ⟨fun s us ws X l1 l2 => ?_, fun r1 r2 => r1.append r2⟩
    obtain ⟨oc, od, dV, kV, doc, pm, an, cdv, ct, osl, rfl, lk, hcd, hD, _⟩ := F.ex
    rcases hD with ⟨z, _⟩ | ⟨_, T, o, its, m, rfl, lT, oT, rT⟩
    · cases z
    · match ws, l2 with
      | [v], _ =>
        obtain ⟨k, e1, e2⟩ := hb2 T kV doc pm an cdv ct us its v l1 rT.length.symm
        refine BindsTo.of_looks fun M => ?_
        show PySem.W.Looks M s.heap (bindArgs _ ⟨us, [(kw, v)]⟩) _
        rw [e1]
        exact looks_items X lT oT (.of_pure e2)
  refine ⟨f, fd, g, F.kp, B0, B1, B2, F.ok S len fun cdv A outer s H vs Q E hr h => ?_⟩
  obtain ⟨t, p, q⟩ := body f cdv A outer s H vs Q E hr h
  exact ⟨t, p.nox, q⟩
end
section
variable {X : Cx}
/-- the default taken -/
theorem pe_callDH {k n : Nat} {x kw : Str} {ps : List Str} {sp : Sp} {p pos : Pos} {e : Expr} {es : List Expr} {t : TA} (G : HasD X.prog X.w X.K X.mg X.base k x ps n kw sp) (hr : Room k X.A) (hg : Gl X x) (ha : PA X (e :: es) t)
    (hdb : (x == ("__debug__" : Str)) = false := by decide) (he : starEach (e :: es) X.env = (false, eval e X.env) :: starEach es X.env := by rfl) (hpl : (backTo pos (starEach es X.env)).any (·.1) = false := by rfl) :
    PE X (.Call (.Name x p) (e :: es) [] pos) (tCall sp [.non] E0 t) := by
  obtain ⟨f, fd, g, kp, _, ⟨ds, v, b⟩, _, F⟩ := G
  exact pe_call F hr hg g kp b v pass0 ha hdb he hpl
/-- the last one by its name -/
theorem pe_callNH {k n : Nat} {x kw : Str} {ps : List Str} {sp : Sp} {p pos : Pos} {e : Expr} {es : List Expr} {kws : List Keyword} {t tk : TA} (G : HasD X.prog X.w X.K X.mg X.base k x ps n kw sp) (hr : Room k X.A) (hg : Gl X x) (ha : PA X (e :: es) t) (hk : PK X kws tk)
    (h1 : (backToKw pos (keywordEach kws X.env)).all (·.1.isSome) = true := by rfl) (h2 : (backToKw pos (keywordEach kws X.env)).filterMap (·.1) = [kw] := by rfl) (hdb : (x == ("__debug__" : Str)) = false := by decide)
    (he : starEach (e :: es) X.env = (false, eval e X.env) :: starEach es X.env := by rfl) (hpl : ((backTo pos (starEach (e :: es) X.env)).any (·.1) || (backToKw pos (keywordEach kws X.env)).any (·.1.isNone)) = false := by rfl) :
    PE X (.Call (.Name x p) (e :: es) kws pos) (tCallN n 1 sp (fun vs zs => vs ++ zs) E0 t tk) := by
  obtain ⟨f, fd, g, kp, _, _, b, F⟩ := G
  exact pe_callN F hr hg g kp b pass0 ha hk h1 h2 hdb he hpl
end
section
variable {P : Program} {w : World} {K : PySem.W.Frag} {mg : Str → Option Value} {base : Heap}
theorem SeqOk.pos {rs : List Run} (h : SeqOk rs) : ∀ r ∈ rs, 1 ≤ r.2 := fun r m => (h.2.1 r m).2.1
theorem pieceR_pos {b s e : Int} {r x : Run} (h : x ∈ pieceR b s e r) : 1 ≤ x.2 := by
  unfold pieceR at h
  split at h
  · rename_i z
    simp only [List.mem_singleton] at h
    subst h
    show 1 ≤ sizeR b s e r.2
    omega
  · cases h
theorem cutR_pos {s e : Int} : ∀ {l : List Run} {b : Int}, ∀ x ∈ cutR s e b l, 1 ≤ x.2
  | [], _, x, h => by cases h
  | r :: t, b, x, h => by
    rcases List.mem_append.mp (show x ∈ pieceR b s e r ++ cutR s e (b + r.2) t from h) with h | h
    · exact pieceR_pos h
    · exact cutR_pos x h
/-! state_after: slots 0:sequence 1:state 2:runs -/
abbrev s_state_after : Stmt := topS 35
theorem sc_state_after : FnScope ["sequence", "state", "runs"] ["sequence", "state"] (defScope s_state_after) := ⟨rfl, rfl, rfl, by decide +kernel, rfl, by decide +kernel, by decide +kernel⟩
def sp_state_after : Sp := fun vs H Q _ => ∃ (a : V) (rs : List Run) (v : V) (st : Option Run), vs = [a, v] ∧ RunsG H a rs ∧ SeqOk rs ∧ StG H v st ∧ StOk st ∧ ∀ H' v', Same H H' → StV H' v' (stR rs st) → Q v' H'
theorem ok_state_after (D : DfD K mg "state_after" s_state_after [.non]) (G_checked_runs : Has P w K mg base 5 "checked_runs" ["sequence"] sp_checked_runs) (G_checked_state : Has P w K mg base 3 "checked_state" ["state"] sp_checked_state) (G_state_after_runs : Has P w K mg base 3 "state_after_runs" ["runs", "state"] sp_state_after_runs) :
    HasD P w K mg base 6 "state_after" ["sequence", "state"] 1 "state" sp_state_after := by
  refine has_ofD D sc_state_after rfl (fun _ _ _ _ _ _ _ us its hl h1 => match us, hl, its, h1 with | [_, _], _, [_], _ => ⟨_, rfl, rfl⟩) (fun _ _ _ _ _ _ _ us its hl h1 => match us, hl, its, h1 with | [_], _, [_], _ => ⟨_, rfl, rfl⟩) (fun _ _ _ _ _ _ _ us its v hl h1 => match us, hl, its, h1 with | [_], _, [_], _ => ⟨_, rfl, rfl⟩) (fun vs H Q E h => ?_) (fun f cdv A outer s₀ H vs Q E hr h => ?_)
  · obtain ⟨a, rs, _, _, rfl, _⟩ := h
    rfl
  · obtain ⟨a, rs, v, st, rfl, hR, ok, hv, so, q⟩ := h
    refine ⟨_, (pss_cons (ps_set (i := 2) sc_state_after.nd rfl (by first | exact Or.inl rfl | exact Or.inr rfl) (pe_callH G_checked_runs (hr.mono (by omega)) (by rfl) (pa_cons (pv 0) pa_nil)))
    (pss_one (ps_ret (pe_callH G_state_after_runs (hr.mono (by omega)) (by rfl) (pa_cons (pv 2) (pa_cons (pe_callH G_checked_state (hr.mono (by omega)) (by rfl) (pa_cons (pv 1) pa_nil)) pa_nil)))))), ?_⟩
    refine ⟨_, rfl, a, rs, rfl, hR, ok, fun H1 p s1 np hp => ?_⟩
    refine ⟨_, rfl, _, rfl, v, st, rfl, hv.same s1, so, fun H2 v2 s2 h2 => ?_⟩
    exact ⟨p, rs, v2, st, rfl, hp.same s2, SeqOk.pos ok, h2, fun H3 v3 s3 h3 => q H3 v3 (s1.trans (s2.trans s3)) h3⟩
/-! state_at: slots 0:sequence 1:moment 2:state 3:runs -/
abbrev s_state_at : Stmt := topS 36
theorem sc_state_at : FnScope ["sequence", "moment", "state", "runs"] ["sequence", "moment", "state"] (defScope s_state_at) := ⟨rfl, rfl, rfl, by decide +kernel, rfl, by decide +kernel, by decide +kernel⟩
def sp_state_at : Sp := fun vs H Q _ => ∃ (a : V) (rs : List Run) (m : Int) (v : V) (st : Option Run), vs = [a, .int m, v] ∧ RunsG H a rs ∧ SeqOk rs ∧ 0 ≤ m ∧ m ≤ lenR rs ∧ StG H v st ∧ StOk st ∧ ∀ H' v', Same H H' → StV H' v' (stR (cutR 0 m 0 rs) st) → Q v' H'
theorem ok_state_at (D : DfD K mg "state_at" s_state_at [.non]) (G_checked_runs : Has P w K mg base 5 "checked_runs" ["sequence"] sp_checked_runs) (G_checked_state : Has P w K mg base 3 "checked_state" ["state"] sp_checked_state) (G_state_after_runs : Has P w K mg base 3 "state_after_runs" ["runs", "state"] sp_state_after_runs)
    (G_check_moment : Has P w K mg base 3 "check_moment" ["runs", "moment"] sp_check_moment) (G_cut : Has P w K mg base 1 "cut" ["runs", "start", "length"] sp_cut) :
    HasD P w K mg base 6 "state_at" ["sequence", "moment", "state"] 2 "state" sp_state_at := by
  refine has_ofD D sc_state_at rfl (fun _ _ _ _ _ _ _ us its hl h1 => match us, hl, its, h1 with | [_, _, _], _, [_], _ => ⟨_, rfl, rfl⟩) (fun _ _ _ _ _ _ _ us its hl h1 => match us, hl, its, h1 with | [_, _], _, [_], _ => ⟨_, rfl, rfl⟩) (fun _ _ _ _ _ _ _ us its v hl h1 => match us, hl, its, h1 with | [_, _], _, [_], _ => ⟨_, rfl, rfl⟩) (fun vs H Q E h => ?_) (fun f cdv A outer s₀ H vs Q E hr h => ?_)
  · obtain ⟨a, rs, _, _, _, rfl, _⟩ := h
    rfl
  · obtain ⟨a, rs, m, v, st, rfl, hR, ok, m0, m1, hv, so, q⟩ := h
    have l4 : rs.length ≤ 1000 := by have := ok.1; omega
    refine ⟨_, (pss_cons (ps_set (i := 3) sc_state_at.nd rfl (by first | exact Or.inl rfl | exact Or.inr rfl) (pe_callH G_checked_runs (hr.mono (by omega)) (by rfl) (pa_cons (pv 0) pa_nil)))
    (pss_cons (ps_expr (pe_callH G_check_moment (hr.mono (by omega)) (by rfl) (pa_cons (pv 3) (pa_cons (pv 1) pa_nil))))
    (pss_one (ps_ret (pe_callH G_state_after_runs (hr.mono (by omega)) (by rfl) (pa_cons (pe_callH G_cut (hr.mono (by omega)) (by rfl) (pa_cons (pv 3) (pa_cons pe_int (pa_cons (pv 1) pa_nil)))) (pa_cons (pe_callH G_checked_state (hr.mono (by omega)) (by rfl) (pa_cons (pv 2) pa_nil)) pa_nil))))))), ?_⟩
    refine ⟨_, rfl, a, rs, rfl, hR, ok, fun H1 p s1 np hp => ?_⟩
    refine ⟨_, rfl, _, rfl, p, rs, m, rfl, hp, l4, m0, m1, fun H2 s2 => ?_⟩
    refine ⟨_, rfl, _, rfl, p, rs, 0, m, rfl, hp.same s2, l4, fun H3 p3 s3 n3 h3 => ?_⟩
    rw [Int.zero_add] at h3
    have sA := s1.trans (s2.trans s3)
    refine ⟨_, rfl, v, st, rfl, hv.same sA, so, fun H4 v4 s4 h4 => ?_⟩
    exact ⟨p3, _, v4, st, rfl, h3.same s4, cutR_pos, h4, fun H5 v5 s5 h5 => q H5 v5 (sA.trans (s4.trans s5)) h5⟩
end
end UP

set_option Elab.async false
set_option linter.all false
set_option maxRecDepth 100000
set_option maxHeartbeats 4000000
namespace UP
open PySem PySem.Spec PyProof.Rows L2
section
variable {P : Program} {w : World} {K : PySem.W.Frag} {mg : Str → Option Value} {base : Heap}
/-! _law_draw: slots 0:spring 1:many 2:mix 3:found -/
abbrev s_law_draw : Stmt := topS 51
theorem sc_law_draw : FnScope ["spring", "many", "mix", "found"] ["spring", "many"] (defScope s_law_draw) := ⟨rfl, rfl, rfl, by decide +kernel, rfl, by decide +kernel, by decide +kernel⟩
def sp_law_draw : Sp := fun vs H Q _ => ∃ (sp : Addr) (m : Int), vs = [.ref sp, .int m] ∧ Spr H sp ∧ 1 ≤ m ∧ m.natAbs < 2 ^ 8000 ∧ ∀ H' r, But sp H H' → Spr H' sp → 0 ≤ r → r < m → Q (.int r) H'
theorem at30 {α : Type} {x y z : α} : atI [x, y, z] 0 = some x := rfl
theorem at31 {α : Type} {x y z : α} : atI [x, y, z] 1 = some y := rfl
theorem at32 {α : Type} {x y z : α} : atI [x, y, z] 2 = some z := rfl
theorem fdiv_le {d m : Int} (h0 : 0 ≤ d) (h1 : 1 ≤ m) : 0 ≤ d / m ∧ d / m ≤ d := by
  refine ⟨Int.ediv_nonneg h0 (by omega), ?_⟩
  have h := Int.ediv_le_self m h0
  exact h
theorem ok_law_draw (D : Df K mg "_law_draw" s_law_draw) (T : Tx mg) : Has P w K mg base 1 "_law_draw" ["spring", "many"] sp_law_draw := by
  refine has_of D sc_law_draw (fun _ _ _ _ _ _ us hl => match us, hl with | [_, _], _ => rfl) (fun vs H Q E h => ?_) (fun f cdv A outer s₀ H vs Q E hr h => ?_)
  · obtain ⟨a, rs, rfl, _⟩ := h
    rfl
  · obtain ⟨sp, m, rfl, ⟨d, s, c, hs, d0, d1, s0, s1⟩, m1, m2, q⟩ := h
    refine ⟨_, (pss_cons (ps_if (pt_cmpR op_gt (pe_ix ix_list (pv 0) pe_int (fun _ _ => rfl)) pe_int (nomark _)) (pss_cons (ps_set (i := 3) sc_law_draw.nd rfl (by first | exact Or.inl rfl | exact Or.inr rfl) (pe_op op_mod (pe_ix ix_list (pv 0) pe_int (fun _ _ => rfl)) (pv 1)))
    (pss_cons (ps_asg (pe_op op_fdivW (pe_ix ix_list (pv 0) pe_int (fun _ _ => rfl)) (pv 1)) (pg_sub (pv 0) pe_int set_list))
    (pss_one (ps_ret (pv 3))))) pss_nil)
    (pss_cons (ps_asg (pe_op op_add (pe_ix ix_list (pv 0) pe_int (fun _ _ => rfl)) pe_int) (pg_sub (pv 0) pe_int set_list))
    (pss_cons (ps_set (i := 2) sc_law_draw.nd rfl (by first | exact Or.inl rfl | exact Or.inr rfl) (pe_op op_mod (pe_op op_mul (pe_ix ix_list (pv 0) pe_int (fun _ _ => rfl)) (pe_ix ix_list (pv 0) pe_int (fun _ _ => rfl))) pe_int))
    (pss_cons (ps_asg (pe_op op_mod (pe_op op_add (pe_op op_add (pv 2) (pe_op op_mul (pe_op op_mul pe_int (pe_ix ix_list (pv 0) pe_int (fun _ _ => rfl))) (pe_ix ix_list (pv 0) pe_int (fun _ _ => rfl)))) pe_int) pe_int) (pg_sub (pv 0) pe_int set_list))
    (pss_one (ps_ret (pe_op op_mod (pe_op op_fdiv (pe_ix ix_list (pv 0) pe_int (fun _ _ => rfl)) pe_int) (pv 1)))))))), ?_⟩
    refine ⟨_, rfl, sp, _, 0, _, rfl, rfl, .of hs, at30, _, _, rfl, rfl, _, rfl, ?_⟩
    by_cases e : 0 < d
    · refine iteP (decide_eq_true e) ?_
      refine ⟨_, rfl, sp, _, 0, _, rfl, rfl, .of hs, at30, _, rfl, _, _, rfl, rfl, (by omega), ?_⟩
      refine ⟨_, rfl, sp, _, 0, _, rfl, rfl, .of hs, at30, _, rfl, _, _, rfl, rfl, wide_div (by omega) m2 (by decide) (by decide), ?_⟩
      refine ⟨_, rfl, sp, _, 0, 0, rfl, rfl, hs, rfl, _, rfl, q _ _ but_upd ⟨d / m, s, c, upd_same, ?_, ?_, s0, s1⟩ (Int.emod_nonneg _ (by omega)) (Int.emod_lt_of_pos _ (by omega))⟩
      · exact (fdiv_le d0 m1).1
      · have := fdiv_le d0 m1
        exact Nat.lt_of_le_of_lt (by omega) d1
    · refine iteN (decide_eq_false e) ?_
      refine ⟨_, rfl, sp, _, 2, _, rfl, rfl, .of hs, at32, _, _, rfl, rfl, ?_⟩
      refine ⟨_, rfl, sp, _, 2, 2, rfl, rfl, hs, rfl, ?_⟩
      have h2 : (upd H sp (.lst [.int d, .int s, .int (c + 1)])) sp = some (.lst [.int d, .int s, .int (c + 1)]) := upd_same
      refine ⟨_, rfl, sp, _, 1, _, rfl, rfl, .of h2, at31, _, rfl, sp, _, 1, _, rfl, rfl, .of h2, at31, _, _, rfl, rfl, .inl ⟨by omega, by omega⟩, _, _, rfl, rfl, (by show (0 : Int) < 2305843009213693951; decide), ?_⟩
      refine ⟨_, rfl, _, rfl, sp, _, 2, _, rfl, rfl, .of h2, at32, _, _, rfl, rfl, .inl ⟨by decide, by decide⟩, _, rfl, sp, _, 1, _, rfl, rfl, .of h2, at31, _, _, rfl, rfl, .inr ⟨by omega, by omega⟩, _, _, rfl, rfl, _, _, rfl, rfl, _, _, rfl, rfl, (by show (0 : Int) < 2305843009213693951; decide), ?_⟩
      refine ⟨_, rfl, sp, _, 1, 1, rfl, rfl, h2, rfl, ?_⟩
      have h3 : ∀ z : Int, (upd (upd H sp (.lst [.int d, .int s, .int (c + 1)])) sp (.lst [.int d, .int z, .int (c + 1)])) sp = some (.lst [.int d, .int z, .int (c + 1)]) := fun z => upd_same
      refine ⟨_, rfl, sp, _, 1, _, rfl, rfl, .of (h3 _), at31, _, _, rfl, rfl, ⟨by decide, by decide⟩, _, rfl, _, _, rfl, rfl, (by omega), ?_⟩
      refine q _ _ (but_upd.trans but_upd) ⟨d, _, _, h3 _, d0, d1, Int.emod_nonneg _ (by decide), Int.emod_lt_of_pos _ (by decide)⟩ (Int.emod_nonneg _ (by omega)) (Int.emod_lt_of_pos _ (by omega))
end
end UP

set_option Elab.async false
set_option linter.all false
set_option maxRecDepth 100000
set_option maxHeartbeats 4000000
namespace UP
open PySem PySem.Spec PyProof.Rows L2
/-! ### data -/
def dRun (r : Run) : PyData := .tuple [.str r.1, .int r.2]
theorem dp_run {K : PySem.W.Frag} {H : Hp} {v : V} {r : Run} (h : RunV H v r) : Dp K H v (dRun r) := by
  obtain ⟨t, rfl, h⟩ := h
  exact .tup (.of h) (.cons (.str _) (.cons (.int _) .nil))
theorem dp_all {K : PySem.W.Frag} {H : Hp} : ∀ {xs : List V} {rs : List Run}, Paired (RunV H) xs rs → DpAll K H xs (rs.map dRun)
  | _, _, .nil => .nil
  | _, _, .cons h t => .cons (dp_run h) (dp_all t)
theorem KindOk.str {s : Str} (h : KindOk s) : PyData.strOk s = true := by
  unfold PyData.strOk
  rw [Array.all_eq_true']
  intro c hc
  have := h.2.2 c (by simpa using hc)
  exact decide_eq_true (by omega)
theorem can_run {r : Run} (h : KindOk r.1) : (dRun r).canLay0 = true := by
  simp [dRun, PyData.canLay0, PyData.canLayAll0, h.str]
theorem can_runs : ∀ {rs : List Run}, (∀ r ∈ rs, KindOk r.1) → PyData.canLayAll0 (rs.map dRun) = true
  | [], _ => by simp [PyData.canLayAll0]
  | r :: t, h => by
    rw [List.map_cons, PyData.canLayAll0, can_run (h r (List.mem_cons_self ..)), can_runs fun x hx => h x (List.mem_cons_of_mem _ hx)]
    rfl
theorem depth_run (r : Run) : (dRun r).depth ≤ 2 := by
  simp [dRun, PyData.depth, PyData.depthAll]
theorem depth_runs : ∀ (rs : List Run), PyData.depthAll (rs.map dRun) ≤ 2
  | [] => by simp [PyData.depthAll]
  | r :: t => by
    rw [List.map_cons, PyData.depthAll]
    exact Nat.max_le.mpr ⟨depth_run r, depth_runs t⟩
theorem shaped_runs {rs : List Run} (h : ∀ r ∈ rs, KindOk r.1) : SeqAt.shaped (.list (rs.map dRun)) = true := by
  unfold SeqAt.shaped
  rw [PyData.canLay0, can_runs h, PyData.depth]
  have := depth_runs rs
  exact decide_eq_true (by omega)
theorem shaped_run {r : Run} (h : KindOk r.1) : SeqAt.shaped (dRun r) = true := by
  unfold SeqAt.shaped
  rw [can_run h]
  have := depth_run r
  exact decide_eq_true (by omega)
theorem shaped_nil : SeqAt.shaped (.list []) = true := by decide
theorem eqv_nil (rs : List Run) : PyData.eqv (.list (rs.map dRun)) (.list []) = rs.isEmpty := by
  cases rs with
  | nil => simp [PyData.eqv, PyData.eqvAll]
  | cons r t => simp [PyData.eqv, PyData.eqvAll]
theorem sb {sp : Addr} {H H' : Hp} (h : Same H H') : But sp H H' := fun b o _ e => h b o e
theorem But.free {sp : Addr} {H H' : Hp} (b : But sp H H') (z : Spr H' sp) {p : Addr} (h : H' p = none) : H p = none := by
  by_cases e : p = sp
  · subst e
    obtain ⟨_, _, _, h1, _⟩ := z
    rw [h1] at h
    cases h
  · cases q : H p with
    | none => rfl
    | some o =>
      rw [b p o e q] at h
      cases h
theorem Spr.ne {sp p : Addr} {H : Hp} (z : Spr H sp) (h : H p = none) : p ≠ sp := by
  obtain ⟨_, _, _, h1, _⟩ := z
  exact fun e => by rw [e, h1] at h; cases h
instance (s : Str) : Decidable (KindOk s) := by
  unfold KindOk
  infer_instance
section
variable {P : Program} {w : World} {K : PySem.W.Frag} {mg : Str → Option Value} {base : Heap}
/-! _law_spring: slots 0:script 1:digits 2:seed 3:cell -/
abbrev s_law_spring : Stmt := topS 50
theorem sc_law_spring : FnScope ["script", "digits", "seed", "cell"] ["script"] (defScope s_law_spring) := ⟨rfl, rfl, rfl, by decide +kernel, rfl, by decide +kernel, by decide +kernel⟩
def sp_law_spring (K : PySem.W.Frag) : Sp := fun vs H Q _ => ∃ (a : Addr) (ns : List Int), vs = [.ref a] ∧ SqL K H a (ns.map V.int) ∧ ns.length ≤ 63 ∧ ∀ H' p, Same H H' → H p = none → Spr H' p → Q (.ref p) H'
theorem pow60 : (10 : Int) ^ ((60 : Int).toNat) = 1000000000000000000000000000000000000000000000000000000000000 := by decide +kernel
theorem pow200 (i : Nat) : 2 ^ (200 * (i + 1)) = 2 ^ (200 * i) * 1606938044258990275541962092341162602522202993782792835301376 := by
  rw [Nat.mul_add, Nat.pow_add]
theorem spring_step {d x : Int} {i : Nat} (h0 : 0 ≤ d) (h1 : d.natAbs < 2 ^ (200 * i)) : 0 ≤ d * (10 : Int) ^ ((60 : Int).toNat) + x % (10 : Int) ^ ((60 : Int).toNat) ∧ (d * (10 : Int) ^ ((60 : Int).toNat) + x % (10 : Int) ^ ((60 : Int).toNat)).natAbs < 2 ^ (200 * (i + 1)) := by
  rw [pow60, pow200]
  generalize 2 ^ (200 * i) = B at h1 ⊢
  have m0 := Int.emod_nonneg x (show (1000000000000000000000000000000000000000000000000000000000000 : Int) ≠ 0 by decide)
  have m1 := Int.emod_lt_of_pos x (show (0 : Int) < 1000000000000000000000000000000000000000000000000000000000000 by decide)
  generalize x % 1000000000000000000000000000000000000000000000000000000000000 = y at m0 m1 ⊢
  omega
theorem ok_law_spring (D : Df K mg "_law_spring" s_law_spring) (T : Tx mg) : Has P w K mg base 1 "_law_spring" ["script"] (sp_law_spring K) := by
  refine has_of D sc_law_spring (fun _ _ _ _ _ _ us hl => match us, hl with | [_], _ => rfl) (fun vs H Q E h => ?_) (fun f cdv A outer s₀ H vs Q E hr h => ?_)
  · obtain ⟨a, rs, rfl, _⟩ := h
    rfl
  · obtain ⟨a, ns, rfl, hS, l63, q⟩ := h
    refine ⟨_, (pss_cons (ps_set (i := 1) sc_law_spring.nd rfl (by first | exact Or.inl rfl | exact Or.inr rfl) pe_int)
    (pss_cons (ps_set (i := 2) sc_law_spring.nd rfl (by first | exact Or.inl rfl | exact Or.inr rfl) pe_int)
    (pss_cons (ps_for PassesOwn.never rfl (pi_list (pe_slice sl_list (pv 0) po_none (po_some pe_int))) (pg_name (i := 3) sc_law_spring.nd rfl (by first | exact Or.inl rfl | exact Or.inr rfl))
      (C8.pss_cut (ps_if (pt_cmpR op_ge (pe_callB call_abs (by rfl) T.n_abs (by decide +kernel) (pa_cons (pv 3) pa_nil)) (pe_op op_pow pe_int pe_int) (nomark _)) (pss_one (ps_set (i := 1) sc_law_spring.nd rfl (by first | exact Or.inl rfl | exact Or.inr rfl) (pe_op op_add (pe_op op_mulW (pv 1) (pe_op op_pow pe_int pe_int)) (pe_op op_mod (pe_callB call_abs (by rfl) T.n_abs (by decide +kernel) (pa_cons (pv 3) pa_nil)) (pe_op op_pow pe_int pe_int))))) pss_nil)
    (pss_one (ps_set (i := 2) sc_law_spring.nd rfl (by first | exact Or.inl rfl | exact Or.inr rfl) (pe_op op_mod (pe_op op_add (pe_op op_add (pe_op op_mul (pv 2) pe_int) (pe_op op_mod (pv 3) pe_int)) pe_int) pe_int)))))
    (pss_one (ps_ret (pe_lst (pa_cons (pv 1) (pa_cons (pv 2) (pa_cons pe_int pa_nil))))))))), ?_⟩
    refine ⟨_, rfl, _, rfl, a, _, rfl, hS, fun c nc => ?_⟩
    obtain ⟨ms, em, lm⟩ : ∃ ms : List Int, cutV (ns.map V.int) none (some 63) = ms.map V.int ∧ ms.length ≤ 63 := by
      refine ⟨_, by unfold cutV; rw [← List.map_drop, ← List.map_take], ?_⟩
      rw [List.length_take, List.length_drop]
      omega
    rw [em]
    have sc : Same H (upd H c (.lst (ms.map V.int))) := same_upd nc
    refine ⟨c, rfl, ⟨_, .of upd_same⟩, for_list (K := K) (a := c) (xs := ms.map V.int) (fun i σ H' => ∃ d s y3, σ = [some (.ref a), some (.int d), some (.int s), y3] ∧ H' = upd H c (.lst (ms.map V.int)) ∧ 0 ≤ d ∧ d.natAbs < 2 ^ (200 * i) ∧ 0 ≤ s ∧ s < 2305843009213693951)
      ⟨0, 88651, none, rfl, rfl, by decide, by decide, by decide, by decide⟩ (fun i σ H' _ hP => ?_) (fun i x σ H4 ex hP => ?_) (fun σ H4 hP => ?_)⟩
    · obtain ⟨_, _, _, _, rfl, _⟩ := hP
      exact .of upd_same
    · obtain ⟨d, s, y3, rfl, rfl, d0, d1, s0, s1⟩ := hP
      rw [List.getElem?_map] at ex
      cases e : ms[i]? with
      | none =>
        rw [e] at ex
        cases ex
      | some n =>
        rw [e] at ex
        have ex := Option.some.inj ex
        subst ex
        refine ⟨fun σ' H' => ∃ d', σ' = [some (.ref a), some (.int d'), some (.int s), some (.int n)] ∧ H' = upd H c (.lst (ms.map V.int)) ∧ 0 ≤ d' ∧ d'.natAbs < 2 ^ (200 * (i + 1)), ?_, fun σ' H5 hM => ?_⟩
        · refine ⟨_, rfl, n, rfl, _, _, rfl, rfl, ⟨by decide, by decide, by decide⟩, _, _, rfl, rfl, _, rfl, ite2 (fun _ => ?_) (fun _ => ?_)⟩
          · refine ⟨_, rfl, _, _, rfl, rfl, ⟨by decide, by decide, by decide⟩, _, _, rfl, rfl, wide_mul (a := 200 * i + 1) (b := 200) (Nat.lt_of_lt_of_le d1 (Nat.pow_le_pow_right (by decide) (by omega))) (by rw [pow60]; decide) (by omega) (by decide) ?_, ?_⟩
            · have : i < ms.length := (List.getElem?_eq_some_iff.mp e).1
              omega
            · refine ⟨_, rfl, n, rfl, _, _, rfl, rfl, ⟨by decide, by decide, by decide⟩, _, _, rfl, rfl, (by show (0 : Int) < 10 ^ ((60 : Int).toNat); rw [pow60]; decide), _, _, rfl, rfl, ?_⟩
              exact ⟨_, rfl, rfl, (spring_step d0 d1).1, (spring_step d0 d1).2⟩
          · refine ⟨d, rfl, rfl, d0, Nat.lt_of_lt_of_le d1 (Nat.pow_le_pow_right (by decide) (by omega))⟩
        · obtain ⟨d', rfl, rfl, d0', d1'⟩ := hM
          refine ⟨_, rfl, _, _, rfl, rfl, .inr ⟨by decide, by decide⟩, _, rfl, _, _, rfl, rfl, (by show (0 : Int) < 2305843009213693921; decide), _, _, rfl, rfl, _, _, rfl, rfl, _, _, rfl, rfl, (by show (0 : Int) < 2305843009213693951; decide), ?_⟩
          exact ⟨d', _, _, rfl, rfl, d0', d1', Int.emod_nonneg _ (by decide), Int.emod_lt_of_pos _ (by decide)⟩
    · obtain ⟨d, s, y3, rfl, rfl, d0, d1, s0, s1⟩ := hP
      refine ⟨_, rfl, _, rfl, (by show 3 ≤ sizeLine; decide), fun p np => q _ p (sc.trans (same_upd np)) (sc.free np) ⟨d, s, 0, upd_same, d0, Nat.lt_of_lt_of_le d1 (Nat.pow_le_pow_right (by decide) ?_), s0, s1⟩⟩
      rw [List.length_map]
      omega
/-! _law_state: slots 0:spring 1:longest 2:kind -/
abbrev s_law_state : Stmt := topS 53
theorem sc_law_state : FnScope ["spring", "longest", "kind"] ["spring", "longest"] (defScope s_law_state) := ⟨rfl, rfl, rfl, by decide +kernel, rfl, by decide +kernel, by decide +kernel⟩
def sp_law_state : Sp := fun vs H Q _ => ∃ (sp : Addr) (m : Int), vs = [.ref sp, .int m] ∧ Spr H sp ∧ 1 ≤ m ∧ m.natAbs < 2 ^ 8000 ∧ ∀ H' v st, But sp H H' → Spr H' sp → StV H' v st → StOk st → (∀ r, st = some r → r.2 ≤ m) → Q v H'
def nine : List Str := ["a", "b", "c", "ab", "zz", "abcdefgh", "aa", "z", "other"]
theorem nine_ok : ∀ s ∈ nine, KindOk s := by decide +kernel
theorem atI_of {α : Type} {l : List α} {i : Int} {x : α} (h0 : 0 ≤ i) (h : l[i.toNat]? = some x) : atI l i = some x := by
  have e : i = (i.toNat : Int) := by omega
  rw [e]
  exact atI_nat h
theorem ok_law_state (D : Df K mg "_law_state" s_law_state) (T : Tx mg) (G_law_draw : Has P w K mg base 1 "_law_draw" ["spring", "many"] sp_law_draw) : Has P w K mg base 2 "_law_state" ["spring", "longest"] sp_law_state := by
  refine has_of D sc_law_state (fun _ _ _ _ _ _ us hl => match us, hl with | [_, _], _ => rfl) (fun vs H Q E h => ?_) (fun f cdv A outer s₀ H vs Q E hr h => ?_)
  · obtain ⟨a, rs, rfl, _⟩ := h
    rfl
  · obtain ⟨sp, m, rfl, hz, m1, m2, q⟩ := h
    refine ⟨_, (pss_cons (ps_set (i := 2) sc_law_state.nd rfl (by first | exact Or.inl rfl | exact Or.inr rfl) (pe_ix ix_list (pe_lst (pa_cons pe_str (pa_cons pe_str (pa_cons pe_str (pa_cons pe_str (pa_cons pe_str (pa_cons pe_str (pa_cons pe_str (pa_cons pe_str (pa_cons pe_str pa_nil)))))))))) (pe_callH G_law_draw (hr.mono (by omega)) (by rfl) (pa_cons (pv 0) (pa_cons pe_int pa_nil))) (fun _ _ => rfl)))
    (pss_one (ps_ret (pe_ifExp (pt_cmpR op_eq (pe_callH G_law_draw (hr.mono (by omega)) (by rfl) (pa_cons (pv 0) (pa_cons pe_int pa_nil))) pe_int (nomark _)) pe_non (pe_tup (pa_cons (pv 2) (pa_cons (pe_op op_add pe_int (pe_callH G_law_draw (hr.mono (by omega)) (by rfl) (pa_cons (pv 0) (pa_cons (pv 1) pa_nil)))) pa_nil))))))), ?_⟩
    refine ⟨(by show 9 ≤ sizeLine; decide), fun l nl => ?_⟩
    have zl : Spr (upd H l (.lst (nine.map V.str))) sp := hz.same (same_upd nl)
    refine ⟨_, rfl, sp, 9, rfl, zl, by decide, by decide, fun H1 r b1 z1 r0 r1 => ?_⟩
    have nl2 : l ≠ sp := Spr.ne hz nl
    have hl : H1 l = some (.lst (nine.map V.str)) := b1 _ _ nl2 upd_same
    have hr9 : r.toNat < nine.length := by
      show r.toNat < 9
      omega
    have ek : (nine.map V.str)[r.toNat]? = some (.str nine[r.toNat]) := by
      rw [List.getElem?_map, List.getElem?_eq_getElem hr9]
      rfl
    have kk : KindOk nine[r.toNat] := nine_ok _ (List.getElem_mem hr9)
    generalize nine[r.toNat] = kd at ek kk
    refine ⟨l, _, r, _, rfl, rfl, .of hl, atI_of r0 ek, ?_⟩
    have bA : But sp H H1 := (sb (same_upd nl)).trans b1
    refine ⟨_, rfl, sp, 3, rfl, z1, by decide, by decide, fun H2 r2 b2 z2 r20 r21 => ⟨rfl, _, rfl, ?_⟩⟩
    by_cases e : r2 = 0
    · subst e
      exact iteP (decide_eq_true rfl) (q H2 _ none (bA.trans b2) z2 rfl (fun r h => by cases h) (fun r h => by cases h))
    · refine iteN (decide_eq_false fun z => e (V.int.inj z)) ?_
      refine ⟨_, rfl, _, rfl, _, rfl, sp, m, rfl, z2, m1, m2, fun H3 r3 b3 z3 r30 r31 => ⟨_, _, rfl, rfl, (by show 2 ≤ sizeLine; decide), fun t nt => ?_⟩⟩
      refine q _ _ (some (kd, 1 + r3)) ((bA.trans (b2.trans b3)).trans (sb (same_upd nt))) (z3.same (same_upd nt)) ⟨t, rfl, upd_same⟩ (fun r h => ?_) (fun r h => ?_)
      · cases h
        exact ⟨kk, by show 1 ≤ 1 + r3; omega⟩
      · cases h
        show 1 + r3 ≤ m
        omega
end
end UP

set_option Elab.async false
set_option linter.all false
set_option maxRecDepth 100000
set_option maxHeartbeats 4000000
namespace UP
open PySem PySem.Spec PyProof.Rows L2
theorem pe_bmK {X : Cx} {K : PySem.W.Frag} {e : Expr} {c : String} {r : V → List V → Hp → VK → Prop} {to : TE} {t : TA} (h : X.K = K) (p : PE X e (tBM X.K c r to t)) : PE X e (tBM K c r to t) := h ▸ p
theorem if_by {c : TT} {t u : TS} {D : Ends} {σ : L2.St} {H : Hp} (R : Bool → Hp → Prop) (h : ∀ Q' : Bool → Hp → Prop, (∀ b H', R b H' → Q' b H') → c σ H Q') (ht : ∀ H', R true H' → t D σ H') (hu : ∀ H', R false H' → u D σ H') : tIfS c t u D σ H := by
  refine h _ fun b H' r => ?_
  cases b with
  | true => exact iteT (ht H' r)
  | false => exact iteF (hu H' r)
theorem erase_map {α β : Type} (f : α → β) : ∀ (l : List α) (i : Nat), (l.map f).eraseIdx i = (l.eraseIdx i).map f
  | [], _ => rfl
  | x :: t, 0 => rfl
  | x :: t, i + 1 => by
    simp only [List.map_cons, List.eraseIdx_cons_succ]
    rw [erase_map f t i]
def eight : List Str := ["a", "b", "c", "ab", "zz", "abcdefgh", "aa", "z"]
theorem eight_ok : ∀ s ∈ eight, KindOk s := by decide +kernel
theorem alt_snoc {l : List Run} {x : Run} (h : Alt l) (k : ∀ y, l[l.length - 1]? = some y → y.1 ≠ x.1) : Alt (l ++ [x]) := by
  intro i a b ha hb
  by_cases h1 : i + 1 < l.length
  · rw [List.getElem?_append_left (by omega)] at ha
    rw [List.getElem?_append_left h1] at hb
    exact h i a b ha hb
  · by_cases h2 : i + 1 = l.length
    · rw [List.getElem?_append_left (by omega)] at ha
      rw [List.getElem?_append_right (by omega), h2, Nat.sub_self] at hb
      cases hb
      rw [show i = l.length - 1 by omega] at ha
      exact k a ha
    · rw [List.getElem?_append_right (by omega)] at hb
      rw [List.getElem?_eq_none (by simp; omega)] at hb
      cases hb
theorem pow62 {x : Int} (h0 : 0 ≤ x) (h1 : x ≤ 1000000) : -(2 ^ 62) ≤ x ∧ x < 2 ^ 62 := by omega
theorem wide8 {m : Int} (h0 : 0 ≤ m) (h1 : m ≤ 1000000000000000000000000000000000000000000000000000000000000) : m.natAbs < 2 ^ 8000 :=
  Nat.lt_of_lt_of_le (show m.natAbs < 2 ^ 256 by omega) (Nat.pow_le_pow_right (by decide) (by decide))
section
variable {P : Program} {w : World} {K : PySem.W.Frag} {mg : Str → Option Value} {base : Heap}
/-! _law_sequence: slots 0:spring 1:most 2:longest 3:pool 4:kinds 5:found 6:k 7:kind 8:count -/
abbrev s_law_sequence : Stmt := topS 52
theorem sc_law_sequence : FnScope ["spring", "most", "longest", "pool", "kinds", "found", "k", "kind", "count"] ["spring", "most", "longest"] (defScope s_law_sequence) := ⟨rfl, rfl, rfl, by decide +kernel, rfl, by decide +kernel, by decide +kernel⟩
def sp_law_sequence : Sp := fun vs H Q _ => ∃ (sp : Addr) (m g : Int), vs = [.ref sp, .int m, .int g] ∧ Spr H sp ∧ 0 ≤ m ∧ m ≤ 400 ∧ 1 ≤ g ∧ g ≤ 1000000000000000000000000000000 ∧ ∀ H' p rs, But sp H H' → Spr H' sp → H p = none → Runs H' p rs → SeqOk rs → (rs.length : Int) ≤ m → (∀ r ∈ rs, r.2 ≤ g) → Q (.ref p) H'
theorem ok_law_sequence (D : Df K mg "_law_sequence" s_law_sequence) (T : Tx mg) (G_law_draw : Has P w K mg base 1 "_law_draw" ["spring", "many"] sp_law_draw) : Has P w K mg base 2 "_law_sequence" ["spring", "most", "longest"] sp_law_sequence := by
  refine has_of D sc_law_sequence (fun _ _ _ _ _ _ us hl => match us, hl with | [_, _, _], _ => rfl) (fun vs H Q E h => ?_) (fun f cdv A outer s₀ H vs Q E hr h => ?_)
  · obtain ⟨_, _, _, rfl, _⟩ := h
    rfl
  · obtain ⟨sp, m, g, rfl, hz, m0, m4, g1, g2, q⟩ := h
    refine ⟨_, (pss_cons (ps_set (i := 3) sc_law_sequence.nd rfl (by first | exact Or.inl rfl | exact Or.inr rfl) (pe_lst (pa_cons pe_str (pa_cons pe_str (pa_cons pe_str (pa_cons pe_str (pa_cons pe_str (pa_cons pe_str (pa_cons pe_str (pa_cons pe_str pa_nil))))))))))
    (pss_cons (ps_setLc (i := 4) (own := [("k", 6)]) rfl sc_law_sequence.nd rfl rfl (sw_true rfl rfl rfl (by decide +kernel)) (pi_range1 (by rfl) T.n_range (pa_cons (pe_op op_add pe_int (pe_callH G_law_draw (hr.mono (by omega)) (by rfl) (pa_cons (pv 0) (pa_cons pe_int pa_nil)))) pa_nil)) (blkOk_by (N := ["spring", "most", "longest", "pool", "kinds", "found", "k", "kind", "count"]) (sc := defScope s_law_sequence) (by decide +kernel)) (fun _ _ _ _ _ => (pg_name (i := 6) sc_law_sequence.nd rfl (by first | exact Or.inl rfl | exact Or.inr rfl))) (fun _ _ _ _ _ => pts_nil) (fun _ _ _ _ _ => (pe_bmK (K := K) rfl (pe_bm PySem.F.plainAttrs_list PySem.F.slot_list_pop PySem.F.type_list_pop mt_popAt (pv 3) (pa_cons (pe_callH G_law_draw (hr.mono (by omega)) (by rfl) (pa_cons (pv 0) (pa_cons (pe_callB (call_len_seqK (K := K) rfl) (by rfl) T.n_len (by decide +kernel) (pa_cons (pv 3) pa_nil)) pa_nil))) pa_nil)))))
    (pss_cons (ps_set (i := 5) sc_law_sequence.nd rfl (by first | exact Or.inl rfl | exact Or.inr rfl) (pe_lst pa_nil))
    (pss_cons (ps_for PassesOwn.never rfl (pi_range1 (by rfl) T.n_range (pa_cons (pe_callH G_law_draw (hr.mono (by omega)) (by rfl) (pa_cons (pv 0) (pa_cons (pe_op op_add (pv 1) pe_int) pa_nil))) pa_nil)) (pg_name (i := 6) sc_law_sequence.nd rfl (by first | exact Or.inl rfl | exact Or.inr rfl))
      (pss_cons (ps_par (i := 7) (j := 8) (by rfl) sc_law_sequence.nd rfl rfl (by decide) rfl rfl (pa_cons (pe_ix ix_list (pv 4) (pe_callH G_law_draw (hr.mono (by omega)) (by rfl) (pa_cons (pv 0) (pa_cons (pe_callB call_len_seq (by rfl) T.n_len (by decide +kernel) (pa_cons (pv 4) pa_nil)) pa_nil))) (fun _ _ => rfl)) (pa_cons (pe_op op_add pe_int (pe_callH G_law_draw (hr.mono (by omega)) (by rfl) (pa_cons (pv 0) (pa_cons (pv 2) pa_nil)))) pa_nil)) (by rfl))
    (pss_one (ps_if (PW.pt (pw_or (pt_cmpR (op_eqD hr.units) (pv 5) (pe_lst pa_nil) (nomark _)) (pw_or1 (pt_cmpR op_ne (pe_ix ix_tup (pe_ix ix_list (pv 5) (pe_un un_neg pe_int) (fun _ _ => rfl)) pe_int (fun _ _ => rfl)) (pv 7) (nomark _))))) (pss_one (ps_expr (pe_bm PySem.F.plainAttrs_list PySem.F.slot_list_append PySem.F.type_list_append mt_append (pv 5) (pa_cons (pe_tup (pa_cons (pv 7) (pa_cons (pv 8) pa_nil))) pa_nil)))) pss_nil))))
    (pss_one (ps_ret (pv 5))))))), ?_⟩
    refine ⟨(by show 8 ≤ sizeLine; decide), fun pl npl => ?_⟩
    have z1 : Spr (upd H pl (.lst (eight.map V.str))) sp := hz.same (same_upd npl)
    have n1 : pl ≠ sp := Spr.ne hz npl
    refine ⟨_, rfl, sp, 5, rfl, z1, by decide, by decide, fun H2 r2 b2 z2 r20 r21 => ?_⟩
    have hp2 : H2 pl = some (.lst (eight.map V.str)) := b2 _ _ n1 upd_same
    have B2 : But sp H H2 := (sb (same_upd npl)).trans b2
    refine ⟨_, _, rfl, rfl, 1 + r2, rfl, by omega, by omega, fun L nL => ?_⟩
    have nLs : L ≠ sp := Spr.ne z2 nL
    have nLp : L ≠ pl := fun e => by rw [e, hp2] at nL; cases nL
    have nLH : H L = none := B2.free z2 nL
    refine lc_range (lo := 0) (n := (1 + r2).toNat) (fun i H' => ∃ ps ks : List Str, But sp H H' ∧ Spr H' sp ∧ H' pl = some (.lst (ps.map V.str)) ∧ ps.length + i = 8 ∧ (∀ s ∈ ps, KindOk s) ∧ H' L = some (.lst (ks.map V.str)) ∧ ks.length = i ∧ (∀ s ∈ ks, KindOk s))
      ⟨eight, [], B2.trans (sb (same_upd nL)), z2.same (same_upd nL), by rw [upd_ne nLp.symm]; exact hp2, rfl, eight_ok, upd_same, rfl, fun s h => by cases h⟩ (fun i H3 hi hP => ?_) (fun H3 hP => ?_)
    · obtain ⟨ps, ks, b3, z3, hpl, lp, okp, hL, lk, okk⟩ := hP
      refine ⟨rfl, yesT ⟨_, rfl, .inl ⟨rfl, _, SqL.of hpl⟩, _, rfl, _, rfl, pl, _, rfl, .inl (.of hpl), sp, _, rfl, z3, ?_, ?_, fun H4 r4 b4 z4 r40 r41 => ?_⟩⟩
      · rw [List.length_map]
        omega
      · rw [List.length_map]
        exact wide8 (by omega) (by omega)
      · rw [List.length_map] at r41
        have lt : r4.toNat < ps.length := by omega
        have h4 : H4 pl = some (.lst (ps.map V.str)) := b4 _ _ n1 hpl
        have hL4 : H4 L = some (.lst (ks.map V.str)) := b4 _ _ nLs hL
        have ek : (ps.map V.str)[r4.toNat]? = some (.str ps[r4.toNat]) := by
          rw [List.getElem?_map, List.getElem?_eq_getElem lt]
          rfl
        have ix : seqIndex? r4 (ps.map V.str).length = some r4.toNat := by
          unfold seqIndex?
          rw [List.length_map]
          have e1 : ¬ r4 < 0 := by omega
          simp only [e1, if_false]
          rw [if_pos]
          simp
          omega
        refine ⟨pl, _, r4, r4.toNat, _, rfl, rfl, h4, by omega, by omega, ix, ek, ks.map V.str, ?_, ?_, ps.eraseIdx r4.toNat, ks ++ [ps[r4.toNat]], ?_, ?_, ?_, ?_, ?_, ?_, ?_, ?_⟩
        · rw [upd_ne nLp]
          exact hL4
        · rw [List.length_map]
          exact small (by omega)
        · intro b o nb eb
          have e1 : b ≠ L := ne_of_none eb nLH
          have e2 : b ≠ pl := ne_of_none eb npl
          rw [upd_ne e1, upd_ne e2]
          exact b4 b o nb (b3 b o nb eb)
        · obtain ⟨d, s, c, hs, rest⟩ := z4
          refine ⟨d, s, c, ?_, rest⟩
          rw [upd_ne nLs.symm, upd_ne n1.symm]
          exact hs
        · rw [upd_ne nLp.symm, upd_same, erase_map]
        · rw [List.length_eraseIdx_of_lt lt]
          omega
        · intro s hs
          exact okp s (List.mem_of_mem_eraseIdx hs)
        · rw [upd_same, List.map_append]
          rfl
        · rw [List.length_append, lk]
          rfl
        · intro s hs
          rcases List.mem_append.mp hs with h | h
          · exact okk s h
          · rw [List.mem_singleton.mp h]
            exact okp _ (List.getElem_mem lt)
    · obtain ⟨ps, ks, b3, z3, hpl, lp, okp, hL, lk, okk⟩ := hP
      refine ⟨Nat.zero_le _, fun p np => ?_⟩
      have npH : H p = none := b3.free z3 np
      have nps : p ≠ sp := Spr.ne z3 np
      have npL : p ≠ L := fun e => by rw [e, hL] at np; cases np
      refine ⟨_, rfl, _, rfl, _, _, rfl, rfl, sp, _, rfl, z3.same (same_upd np), (by show 1 ≤ m + 1; omega), (wide8 (by show 0 ≤ m + 1; omega) (by show m + 1 ≤ _; omega)), fun H5 r5 b5 z5 r50 r51 => ?_⟩
      have r51 : r5 < m + 1 := r51
      refine ⟨r5, rfl, by omega, by omega, for_range (lo := 0) (n := r5.toNat) (fun i σ H' => ∃ y6 y7 y8 rs, σ = [some (.ref sp), some (.int m), some (.int g), some (.ref pl), some (.ref L), some (.ref p), y6, y7, y8] ∧ But sp H H' ∧ Spr H' sp ∧ H' L = some (.lst (ks.map V.str)) ∧ Runs H' p rs ∧ rs.length ≤ i ∧ (∀ r ∈ rs, RunOk r ∧ r.2 ≤ g) ∧ Alt rs)
        ⟨none, none, none, [], rfl, (b3.trans (sb (same_upd np))).trans b5, z5, b5 _ _ nLs (same_upd np _ _ hL), ⟨[], b5 _ _ nps upd_same, .nil⟩, Nat.zero_le _, (fun r h => by cases h), (fun i x y h => by simp at h)⟩ (fun i σ H6 hi hP => ?_) (fun σ H6 hP => ?_)⟩
      · obtain ⟨y6, y7, y8, rs, rfl, b6, z6, hL6, hR, lr, okr, alt⟩ := hP
        refine ⟨_, rfl, _, rfl, _, rfl, L, _, rfl, .inl (.of hL6), sp, _, rfl, z6, ?_, ?_, fun H7 r7 b7 z7 r70 r71 => ?_⟩
        · rw [List.length_map]
          omega
        · rw [List.length_map]
          exact wide8 (by omega) (by omega)
        rw [List.length_map] at r71
        have lt : r7.toNat < ks.length := by omega
        have hL7 : H7 L = some (.lst (ks.map V.str)) := b7 _ _ nLs hL6
        have ek : (ks.map V.str)[r7.toNat]? = some (.str ks[r7.toNat]) := by
          rw [List.getElem?_map, List.getElem?_eq_getElem lt]
          rfl
        have kk : KindOk ks[r7.toNat] := okk _ (List.getElem_mem lt)
        generalize ks[r7.toNat] = kd at ek kk
        refine ⟨L, _, r7, _, rfl, rfl, .of hL7, atI_of r70 ek, ?_⟩
        refine ⟨_, rfl, _, rfl, sp, g, rfl, z7, g1, wide8 (by omega) (by omega), fun H8 r8 b8 z8 r80 r81 => ⟨_, _, rfl, rfl, _, _, rfl, ?_⟩⟩
        have B8 := b6.trans (b7.trans b8)
        have hL8 : H8 L = some (.lst (ks.map V.str)) := b8 _ _ nLs hL7
        have hR8 : Runs H8 p rs := (hR.but z6 b7).but z7 b8
        have okR : ∀ r ∈ rs, KindOk r.1 := fun r h => (okr r h).1.1
        clear b7 b8 hL7 hR hL6 b6 z6 z7
        obtain ⟨xs, hx, hpr⟩ := hR8
        have lx : xs.length = rs.length := Paired.len hpr
        dsimp only
        refine if_by (fun b H9 => Same H8 H9 ∧ (b = true → ∀ y, rs[rs.length - 1]? = some y → y.1 ≠ kd)) (fun Q' k => ?_) (fun H9 hq => ?_) (fun H9 hq => ?_)
        · refine ⟨_, rfl, Nat.zero_le _, fun e ne => ?_⟩
          have se : Same H8 (upd H8 e (.lst [])) := same_upd ne
          refine ⟨.list (rs.map dRun), .list [], .lst (.of (se _ _ hx)) (dp_all (prs_same se hpr)), .lst (.of upd_same) .nil, shaped_runs okR, shaped_nil, _, rfl, ?_⟩
          rw [eqv_nil]
          cases hrs : rs with
          | nil => exact iteP rfl (k _ _ ⟨se, fun _ y hy => by rw [hrs] at hy; cases hy⟩)
          | cons r0 t0 =>
            refine iteN rfl ?_
            have hne : rs ≠ [] := by rw [hrs]; intro z; cases z
            have hlt : rs.length - 1 < rs.length := by
              have : 0 < rs.length := by rw [hrs]; exact Nat.succ_pos _
              omega
            obtain ⟨x, ex, hxv⟩ := Paired.at' hpr (List.getElem?_eq_getElem hlt)
            obtain ⟨tt, rfl, htt⟩ := RunV.same se hxv
            have exl : atI xs (-1) = some (.ref tt) := by
              have h1 : xs ≠ [] := fun z => by rw [z] at lx; rw [hrs] at lx; cases lx
              have h2 : xs = xs.dropLast ++ [xs.getLast h1] := (List.dropLast_concat_getLast h1).symm
              have h3 : xs.getLast h1 = .ref tt := by
                have := List.getLast?_eq_getElem? (l := xs)
                rw [lx, ex, List.getLast?_eq_some_getLast h1] at this
                exact Option.some.inj this
              rw [h2, h3]
              exact atI_last _ _
            refine ⟨_, rfl, 1, rfl, p, xs, -1, _, rfl, rfl, .of (se _ _ hx), exl, tt, _, 0, _, rfl, rfl, .of htt, at0, _, rfl, rfl, _, rfl, ?_⟩
            refine k _ _ ⟨se, fun hb y hy => ?_⟩
            rw [List.getElem?_eq_getElem hlt] at hy
            cases hy
            intro z
            rw [z] at hb
            simp at hb
        · obtain ⟨s9, ha⟩ := hq
          refine ⟨_, rfl, .inl ⟨rfl, _, SqL.of (s9 _ _ hx)⟩, _, rfl, _, rfl, (by show 2 ≤ sizeLine; decide), fun n nn => ⟨p, _, _, rfl, rfl, same_upd nn _ _ (s9 _ _ hx), small (by omega), ?_⟩⟩
          have sn := s9.trans (same_upd (o := .tup [.str kd, .int (1 + r8)]) nn)
          refine ⟨_, _, _, rs ++ [(kd, 1 + r8)], rfl, ?_, ?_, ?_, ⟨_, upd_same, Paired.app (prs_grow (sn _ _ hx) (prs_same sn hpr)) (.cons (RunV.grow (sn _ _ hx) ⟨n, rfl, upd_same⟩) .nil)⟩, ?_, ?_, alt_snoc alt (ha rfl)⟩
          · intro b o nb eb
            rw [upd_ne (ne_of_none eb npH)]
            exact sn b o (B8 b o nb eb)
          · obtain ⟨d, s, c, hs, rest⟩ := z8.same sn
            refine ⟨d, s, c, ?_, rest⟩
            rw [upd_ne nps.symm]
            exact hs
          · rw [upd_ne npL.symm]
            exact sn _ _ hL8
          · rw [List.length_append]
            show rs.length + 1 ≤ i + 1
            omega
          · intro r hr
            rcases List.mem_append.mp hr with h | h
            · exact okr r h
            · rw [List.mem_singleton.mp h]
              exact ⟨⟨kk, by show 1 ≤ 1 + r8; omega, by show 1 + r8 ≤ _; omega⟩, by show 1 + r8 ≤ g; omega⟩
        · obtain ⟨s9, ha⟩ := hq
          exact ⟨_, _, _, rs, rfl, fun b o nb eb => s9 b o (B8 b o nb eb), z8.same s9, s9 _ _ hL8, ⟨xs, s9 _ _ hx, prs_same s9 hpr⟩, by omega, okr, alt⟩
      · obtain ⟨y6, y7, y8, rs, rfl, b6, z6, hL6, hR, lr, okr, alt⟩ := hP
        exact ⟨_, rfl, q H6 p rs b6 z6 npH hR ⟨by omega, fun r h => (okr r h).1, alt⟩ (by omega) (fun r h => (okr r h).2)⟩
end
end UP

set_option Elab.async false
set_option linter.all false
set_option maxRecDepth 100000
set_option maxHeartbeats 4000000
namespace UP
open PySem PySem.Spec PyProof.Rows L2
def scR (t : Int) (rs : List Run) : List Run := rs.map fun r => (r.1, r.2 * t)
def toldR (ws : List Run) : Option Run := match ws with
  | [] => none
  | r :: _ => some (r.1, (ws.length : Int))
def repR (k : Str) (n : Int) : Option Run := if n = 0 then none else some (k, n)
theorem repR_zero (k : Str) : repR k 0 = none := if_pos rfl
theorem repR_pos {k : Str} {n : Int} (h : 0 < n) : repR k n = some (k, n) := if_neg (by omega)
def PosO (st : Option Run) : Prop := ∀ r, st = some r → 1 ≤ r.2
theorem stepR_pos {st : Option Run} {k : Str} {c : Int} (h : PosO st) (hc : 1 ≤ c) : PosO (stepR st k c) := by
  intro r e
  cases st with
  | none =>
    cases e
    exact hc
  | some x =>
    have hx := h x rfl
    have e : (if x.1 = k then some (k, x.2 + c) else if 0 < x.2 - c then some (x.1, x.2 - c) else if x.2 - c = 0 then none else some (k, -(x.2 - c))) = some r := e
    by_cases h1 : x.1 = k
    · rw [if_pos h1] at e
      cases e
      show 1 ≤ x.2 + c
      omega
    · rw [if_neg h1] at e
      by_cases h2 : 0 < x.2 - c
      · rw [if_pos h2] at e
        cases e
        show 1 ≤ x.2 - c
        omega
      · rw [if_neg h2] at e
        by_cases h3 : x.2 - c = 0
        · rw [if_pos h3] at e
          cases e
        · rw [if_neg h3] at e
          cases e
          show 1 ≤ -(x.2 - c)
          omega
theorem stR_cons (r : Run) (l : List Run) (st : Option Run) : stR (r :: l) st = stR l (stepR st r.1 r.2) := rfl
theorem stR_pos : ∀ {rs : List Run} {st : Option Run}, PosO st → (∀ r ∈ rs, 1 ≤ r.2) → PosO (stR rs st)
  | [], _, h, _ => h
  | r :: t, st, h, k => by
    rw [stR_cons]
    exact stR_pos (stepR_pos h (k r (List.mem_cons_self ..))) fun x hx => k x (List.mem_cons_of_mem _ hx)
theorem StOk.pos {st : Option Run} (h : StOk st) : PosO st := fun r e => (h r e).2
section
variable {P : Program} {w : World} {K : PySem.W.Frag} {mg : Str → Option Value} {base : Heap}
end
end UP

set_option Elab.async false
set_option linter.all false
set_option maxRecDepth 100000
set_option maxHeartbeats 4000000
namespace UP
open PySem PySem.Spec PyProof.Rows L2
/-! ### plain data, by depth -/
def Dsc (v : V) (d : PyData) : Prop := (v = .non ∧ d = .none) ∨ (∃ b, v = .bl b ∧ d = .bool b) ∨ (∃ i, v = .int i ∧ d = .int i) ∨ ∃ s, v = .str s ∧ d = .str s
def Dt (H : Hp) : Nat → V → PyData → Prop
  | 0, v, d => Dsc v d
  | n + 1, v, d => Dsc v d ∨ (∃ a xs ds, v = .ref a ∧ H a = some (.lst xs) ∧ d = .list ds ∧ Paired (Dt H n) xs ds ∧ ds.length ≤ 100000) ∨ ∃ a xs ds, v = .ref a ∧ H a = some (.tup xs) ∧ d = .tuple ds ∧ Paired (Dt H n) xs ds ∧ ds.length ≤ 100000
theorem Dt.same {H H' : Hp} (s : Same H H') : ∀ {n : Nat} {v : V} {d : PyData}, Dt H n v d → Dt H' n v d
  | 0, _, _, h => h
  | n + 1, v, d, h => by
    rcases h with h | ⟨a, xs, ds, e, h, e2, p, l⟩ | ⟨a, xs, ds, e, h, e2, p, l⟩
    · exact .inl h
    · exact .inr (.inl ⟨a, xs, ds, e, s _ _ h, e2, Paired.imp (fun _ _ z => Dt.same s z) p, l⟩)
    · exact .inr (.inr ⟨a, xs, ds, e, s _ _ h, e2, Paired.imp (fun _ _ z => Dt.same s z) p, l⟩)
theorem dsc_ref {a : Addr} {d : PyData} (h : Dsc (.ref a) d) : False := by
  rcases h with ⟨h, _⟩ | ⟨_, h, _⟩ | ⟨_, h, _⟩ | ⟨_, h, _⟩ <;> cases h
theorem dsc_lst {v : V} {ds : List PyData} (h : Dsc v (.list ds)) : False := by
  rcases h with ⟨_, h⟩ | ⟨_, _, h⟩ | ⟨_, _, h⟩ | ⟨_, _, h⟩ <;> cases h
theorem dsc_tup {v : V} {ds : List PyData} (h : Dsc v (.tuple ds)) : False := by
  rcases h with ⟨_, h⟩ | ⟨_, _, h⟩ | ⟨_, _, h⟩ | ⟨_, _, h⟩ <;> cases h
theorem dsc_one {v v' : V} {d : PyData} (h : Dsc v d) (h' : Dsc v' d) : v = v' := by
  rcases h with ⟨e, z⟩ | ⟨x, e, z⟩ | ⟨x, e, z⟩ | ⟨x, e, z⟩ <;> subst z <;> rcases h' with ⟨e', z⟩ | ⟨y, e', z⟩ | ⟨y, e', z⟩ | ⟨y, e', z⟩ <;> cases z <;> rw [e, e']
theorem kit_no {K : PySem.W.Frag} {c : String} (h1 : kitB c "list" = some false) (h2 : kitB c "tuple" = some false) : PySem.W.kitAny K (.type c) [.type "list", .type "tuple"] = some false :=
  kitAny_cons (b := false) (kit_ty h1) (fun _ => kitAny_cons (b := false) (kit_ty h2) (fun _ => rfl) (fun z => nomatch z)) (fun z => nomatch z)
theorem ixL {K : PySem.W.Frag} {x y : V} {H : Hp} {Q : VK} (h : rIxL K x y H Q) : rIx K x y H Q := .inl h
theorem ixT {K : PySem.W.Frag} {x y : V} {H : Hp} {Q : VK} (h : rIxT K x y H Q) : rIx K x y H Q := .inr (.inl h)
section
variable {P : Program} {w : World} {K : PySem.W.Frag} {mg : Str → Option Value} {base : Heap}
end
end UP

set_option Elab.async false
set_option linter.all false
set_option maxRecDepth 100000
set_option maxHeartbeats 4000000
namespace UP
open PySem PySem.Spec PyProof.Rows L2
/-! ### a walk over one object that stays, whatever else is changed -/
structure WkA (J : It) (H : Hp) (a : Addr) (xs : List V) : Prop where
  go : ∀ i H', H' a = H a → i < xs.length → J.go i H'
  stop : ∀ H', H' a = H a → J.stop xs.length H'
  yld : ∀ i x H' H'', H' a = H a → J.yld i H' x H'' → H'' = H' ∧ xs[i]? = some x
def iSeqA (i : Nat) : TI := fun σ H R => ∃ a xs, σ[i]? = some (some (.ref a)) ∧ Sq2 H a xs ∧ ∀ J, WkA J H a xs → R J H
section
variable {X : Cx}
theorem wka_list {K : PySem.W.Frag} {H : Hp} {a : Addr} {xs : List V} (h : H a = some (.lst xs)) : WkA (Itl K a) H a xs :=
  ⟨fun i H' e hi => ⟨xs, xs[i], .of (e.trans h), List.getElem?_eq_getElem hi⟩, fun H' e => ⟨xs, .of (e.trans h), Nat.le_refl _⟩, fun i x H' H'' e y => ⟨y.1, y.2 xs (.of (e.trans h))⟩⟩
theorem wka_tup {K : PySem.W.Frag} {H : Hp} {a : Addr} {xs : List V} (h : H a = some (.tup xs)) : WkA (Itt K a) H a xs :=
  ⟨fun i H' e hi => ⟨xs, xs[i], .of (e.trans h), List.getElem?_eq_getElem hi⟩, fun H' e => ⟨xs, .of (e.trans h), Nat.le_refl _⟩, fun i x H' H'' e y => ⟨y.1, y.2 xs (.of (e.trans h))⟩⟩
theorem pi_seqA (i : Nat) {x : Str} {pos : Pos} {tg : Expr} (hN : X.N[i]? = some x := by rfl) (hv : Vis X.env.scope x := by first | exact Or.inl rfl | exact Or.inr (Or.inl rfl) | exact Or.inr (Or.inr rfl)) (hd : (x == ("__debug__" : Str)) = false := by decide)
    (hc : (x == ("__classdict__" : Str)) = false := by decide) : PI X tg (.Name x pos) (iSeqA i) := by
  refine ⟨fun pins s σ H R I hw => ?_⟩
  obtain ⟨a, xs, e, h, k⟩ := hw
  rcases h with h | h
  · exact (pi_list (pe_var hN hv hd hc)).run pins s σ H R I ⟨_, e, a, rfl, ⟨xs, .of h⟩, k _ (wka_list h)⟩
  · exact (pi_tup (pe_var hN hv hd hc)).run pins s σ H R I ⟨_, e, a, rfl, ⟨xs, .of h⟩, k _ (wka_tup h)⟩
end
theorem lc_wka {J : It} {H0 H1 : Hp} {a : Addr} {xs : List V} {g : TG} {tt : TT} {te : TE} {vs : List Nat} {σ : L2.St} {D : Addr} {Qd : Hp → Prop} (wk : WkA J H0 a xs) (Pv : Nat → Hp → Prop) (hsm : ∀ i H, Pv i H → H a = H0 a) (h0 : Pv 0 (upd H1 D (.lst [])))
    (hs : ∀ i x H, xs[i]? = some x → Pv i H → g x (wipe σ vs) H fun σ2 H2 => wipe σ2 vs = wipe σ vs ∧ tt σ2 H2 fun b H3 =>
      if b = true then te σ2 H3 fun y H4 => ∃ acc, H4 D = some (.lst acc) ∧ acc.length < sizeLine ∧ Pv (i + 1) (upd H4 D (.lst (acc ++ [y]))) else Pv (i + 1) H3) (hd : ∀ H, Pv xs.length H → Qd H) :
    ∃ W : Nat → Nat → Hp → Prop, (∃ m, W 0 m (upd H1 D (.lst []))) ∧ ∀ i m H, W i m H →
      (J.stop i H ∧ Qd H) ∨ (J.go i H ∧ ∃ Nx : Hp → Prop, (∀ H', Nx H' → ∃ m', m' < m ∧ W (i + 1) m' H') ∧ ∀ x H', J.yld i H x H' → g x (wipe σ vs) H' fun σ2 H2 => wipe σ2 vs = wipe σ vs ∧ tt σ2 H2 fun b H3 =>
        if b = true then te σ2 H3 fun y H4 => ∃ acc, H4 D = some (.lst acc) ∧ acc.length < sizeLine ∧ Nx (upd H4 D (.lst (acc ++ [y]))) else Nx H3) := by
  refine lc_gen Pv h0 (fun i H hi p => wk.go i H (hsm i H p) hi) (fun H p => wk.stop H (hsm _ H p)) (fun i x H H' hi p y => ?_) hd
  obtain ⟨e, ex⟩ := wk.yld i x H H' (hsm i H p) y
  subst e
  exact hs i x _ ex p
theorem for_gen {J : It} {n : Nat} {H : Hp} {g : TG} {tb : TS} {D : Ends} {σ : L2.St} (Pv : Nat → L2.St → Hp → Prop) (h0 : Pv 0 σ H) (hg : ∀ i σ H, i < n → Pv i σ H → J.go i H) (hst : ∀ σ H, Pv n σ H → J.stop n H)
    (hs : ∀ i x σ H H', i < n → Pv i σ H → J.yld i H x H' → g x σ H' fun σ2 H2 => tb { D with nx := Pv (i + 1), ct := Pv (i + 1), bk := D.nx } σ2 H2) (hd : ∀ σ H, Pv n σ H → D.nx σ H) :
    ∃ W : Nat → Nat → L2.St → Hp → Prop, (∃ m, W 0 m σ H) ∧ ∀ i m σ H, W i m σ H →
      (J.stop i H ∧ D.nx σ H) ∨ (J.go i H ∧ ∃ N : L2.St → Hp → Prop, (∀ σ' H', N σ' H' → ∃ m', m' < m ∧ W (i + 1) m' σ' H') ∧ ∀ x H', J.yld i H x H' → g x σ H' fun σ2 H2 => tb { D with nx := N, ct := N, bk := D.nx } σ2 H2) := by
  refine ⟨fun i m σ H => m = n - i ∧ i ≤ n ∧ Pv i σ H, ⟨n, by omega, Nat.zero_le _, h0⟩, ?_⟩
  rintro i m σ H ⟨rfl, hi, p⟩
  by_cases hlt : i < n
  · exact Or.inr ⟨hg i σ H hlt p, Pv (i + 1), fun σ' H' p' => ⟨n - (i + 1), by omega, rfl, hlt, p'⟩, fun x H' y => hs i x σ H H' hlt p y⟩
  · have e : i = n := by omega
    subst e
    exact Or.inl ⟨hst σ H p, hd σ H p⟩
theorem for_wka {J : It} {H0 H : Hp} {a : Addr} {xs : List V} {g : TG} {tb : TS} {D : Ends} {σ : L2.St} (wk : WkA J H0 a xs) (Pv : Nat → L2.St → Hp → Prop) (hsm : ∀ i σ H, Pv i σ H → H a = H0 a) (h0 : Pv 0 σ H)
    (hs : ∀ i x σ H, xs[i]? = some x → Pv i σ H → g x σ H fun σ2 H2 => tb { D with nx := Pv (i + 1), ct := Pv (i + 1), bk := D.nx } σ2 H2) (hd : ∀ σ H, Pv xs.length σ H → D.nx σ H) :
    ∃ W : Nat → Nat → L2.St → Hp → Prop, (∃ m, W 0 m σ H) ∧ ∀ i m σ H, W i m σ H →
      (J.stop i H ∧ D.nx σ H) ∨ (J.go i H ∧ ∃ N : L2.St → Hp → Prop, (∀ σ' H', N σ' H' → ∃ m', m' < m ∧ W (i + 1) m' σ' H') ∧ ∀ x H', J.yld i H x H' → g x σ H' fun σ2 H2 => tb { D with nx := N, ct := N, bk := D.nx } σ2 H2) := by
  refine for_gen Pv h0 (fun i σ H hi p => wk.go i H (hsm i σ H p) hi) (fun σ H p => wk.stop H (hsm _ σ H p)) (fun i x σ H H' hi p y => ?_) hd
  obtain ⟨e, ex⟩ := wk.yld i x H H' (hsm i σ H p) y
  subst e
  exact hs i x σ _ ex p
theorem Sq2.eq {H H' : Hp} {a : Addr} {xs : List V} (h : Sq2 H a xs) (s : Same H H') : H' a = H a := h.elim (fun z => (s _ _ z).trans z.symm) (fun z => (s _ _ z).trans z.symm)
/-! ### data without its dress -/
def Sim (N : Addr → Prop) (H : Hp) : Nat → V → PyData → Prop
  | 0, v, d => Dsc v d
  | n + 1, v, d => Dsc v d ∨ ∃ a xs ds, v = .ref a ∧ N a ∧ Sq2 H a xs ∧ d = .list ds ∧ Paired (Sim N H n) xs ds ∧ ds.length ≤ 1000
theorem Sim.keep {N N' : Addr → Prop} {H H' : Hp} (hn : ∀ a, N a → N' a) (hk : ∀ a o, N a → H a = some o → H' a = some o) : ∀ {n : Nat} {v : V} {d : PyData}, Sim N H n v d → Sim N' H' n v d
  | 0, _, _, h => h
  | n + 1, v, d, h => by
    rcases h with h | ⟨a, xs, ds, e, na, hx, e2, p, l⟩
    · exact .inl h
    · exact .inr ⟨a, xs, ds, e, hn a na, hx.elim (fun z => .inl (hk _ _ na z)) (fun z => .inr (hk _ _ na z)), e2, Paired.imp (fun _ _ z => Sim.keep hn hk z) p, l⟩
theorem Sim.dsc {N : Addr → Prop} {H : Hp} {v : V} {d : PyData} : ∀ {n : Nat}, Dsc v d → Sim N H n v d
  | 0, h => h
  | n + 1, h => .inl h
section
variable {P : Program} {w : World} {K : PySem.W.Frag} {mg : Str → Option Value} {base : Heap}
end
end UP

set_option Elab.async false
set_option linter.all false
set_option maxRecDepth 100000
set_option maxHeartbeats 4000000
namespace UP
open PySem PySem.Spec PyProof.Rows L2
/-! ### waiting items one by one -/
def plS (ws : List Run) (k : Str) (n : Nat) : List Run := match ws with
  | [] => [(k, (n : Int))]
  | r :: t => if r.1 = k then (r :: t) ++ [(k, (n : Int))] else t
def plP (ws : List Run) (k : Str) (n : Nat) : List (Int × Int) := match ws with
  | [] => []
  | r :: _ => if r.1 = k then [] else [(r.2, (n : Int))]
def plA (ws : List Run) (n : Nat) : List Str → List Run
  | [] => ws
  | k :: t => plA (plS ws k n) (n + 1) t
def psR (ws : List Run) (n : Nat) : List Str → List (Int × Int)
  | [] => []
  | k :: t => plP ws k n ++ psR (plS ws k n) (n + 1) t
theorem plA_snoc : ∀ (l : List Str) (ws : List Run) (n : Nat) (k : Str), plA ws n (l ++ [k]) = plS (plA ws n l) k (n + l.length)
  | [], ws, n, k => rfl
  | x :: t, ws, n, k => by
    show plA (plS ws x n) (n + 1) (t ++ [k]) = plS (plA (plS ws x n) (n + 1) t) k (n + (x :: t).length)
    rw [plA_snoc t, List.length_cons, show n + 1 + t.length = n + (t.length + 1) by omega]
theorem psR_snoc : ∀ (l : List Str) (ws : List Run) (n : Nat) (k : Str), psR ws n (l ++ [k]) = psR ws n l ++ plP (plA ws n l) k (n + l.length)
  | [], ws, n, k => by
    show plP ws k n ++ [] = [] ++ plP ws k (n + 0)
    rw [List.append_nil, List.nil_append, Nat.add_zero]
  | x :: t, ws, n, k => by
    show plP ws x n ++ psR (plS ws x n) (n + 1) (t ++ [k]) = (plP ws x n ++ psR (plS ws x n) (n + 1) t) ++ plP (plA (plS ws x n) (n + 1) t) k (n + (x :: t).length)
    rw [psR_snoc t, List.length_cons, List.append_assoc, show n + 1 + t.length = n + (t.length + 1) by omega]
def plMs (ws : List Run) (ks : List Str) : List (List Run) := (List.range (ks.length + 1)).map fun m => plA ws 0 (ks.take m)
theorem plMs_snoc (ws : List Run) (l : List Str) (k : Str) : plMs ws (l ++ [k]) = plMs ws l ++ [plA ws 0 (l ++ [k])] := by
  unfold plMs
  rw [List.length_append, List.length_cons, List.length_nil, Nat.zero_add, List.range_succ, List.map_append]
  congr 1
  · refine List.map_congr_left fun m hm => ?_
    have : m ≤ l.length := by
      have := List.mem_range.mp hm
      omega
    rw [List.take_append_of_le_length this]
  · rw [List.map_singleton, List.take_of_length_le (by rw [List.length_append]; exact Nat.le_refl _)]
theorem plMs_nil (ws : List Run) : plMs ws [] = [ws] := rfl
theorem plMs_len (ws : List Run) (l : List Str) : (plMs ws l).length = l.length + 1 := by
  unfold plMs
  rw [List.length_map, List.length_range]
theorem plS_len (ws : List Run) (k : Str) (n : Nat) : (plS ws k n).length ≤ ws.length + 1 := by
  cases ws with
  | nil => exact Nat.le_refl _
  | cons r t =>
    show (if r.1 = k then (r :: t) ++ [(k, (n : Int))] else t).length ≤ _
    split
    · rw [List.length_append]
      exact Nat.le_refl _
    · rw [List.length_cons]
      omega
theorem plA_len : ∀ (l : List Str) (ws : List Run) (n : Nat), (plA ws n l).length ≤ ws.length + l.length
  | [], ws, n => Nat.le_refl _
  | k :: t, ws, n => by
    have h1 := plA_len t (plS ws k n) (n + 1)
    have h2 := plS_len ws k n
    show (plA (plS ws k n) (n + 1) t).length ≤ _
    rw [List.length_cons]
    omega
theorem plP_len (ws : List Run) (k : Str) (n : Nat) : (plP ws k n).length ≤ 1 := by
  cases ws with
  | nil => exact Nat.zero_le _
  | cons r t =>
    show (if r.1 = k then [] else [(r.2, (n : Int))]).length ≤ 1
    split <;> simp
theorem psR_len : ∀ (l : List Str) (ws : List Run) (n : Nat), (psR ws n l).length ≤ l.length
  | [], ws, n => Nat.le_refl _
  | k :: t, ws, n => by
    have h1 := psR_len t (plS ws k n) (n + 1)
    have h2 := plP_len ws k n
    show (plP ws k n ++ psR (plS ws k n) (n + 1) t).length ≤ _
    rw [List.length_append, List.length_cons]
    omega
theorem plS_kinds {ws : List Run} {k : Str} {n : Nat} (h : ∀ r ∈ ws, KindOk r.1) (hk : KindOk k) : ∀ r ∈ plS ws k n, KindOk r.1 := by
  intro r hr
  cases ws with
  | nil =>
    rw [List.mem_singleton.mp (show r ∈ [(k, (n : Int))] from hr)]
    exact hk
  | cons x t =>
    have hr : r ∈ (if x.1 = k then (x :: t) ++ [(k, (n : Int))] else t) := hr
    by_cases e : x.1 = k
    · rw [if_pos e] at hr
      rcases List.mem_append.mp hr with z | z
      · exact h r z
      · rw [List.mem_singleton.mp z]
        exact hk
    · rw [if_neg e] at hr
      exact h r (List.mem_cons_of_mem _ hr)
theorem plA_kinds : ∀ {l : List Str} {ws : List Run} {n : Nat}, (∀ r ∈ ws, KindOk r.1) → (∀ k ∈ l, KindOk k) → ∀ r ∈ plA ws n l, KindOk r.1
  | [], _, _, h, _ => h
  | k :: t, ws, n, h, hl => plA_kinds (l := t) (plS_kinds h (hl k (List.mem_cons_self ..))) fun x hx => hl x (List.mem_cons_of_mem _ hx)
def w0R : Option Run → List Run
  | none => []
  | some r => List.replicate r.2.toNat (r.1, -1)
def itR (rs : List Run) : List Str := rs.flatMap fun r => List.replicate r.2.toNat r.1
theorem itR_snoc (l : List Run) (r : Run) : itR (l ++ [r]) = itR l ++ List.replicate r.2.toNat r.1 := by
  unfold itR
  rw [List.flatMap_append]
  simp
def PV (H : Hp) (v : V) (p : Int × Int) : Prop := ∃ t, v = .ref t ∧ H t = some (.tup [.int p.1, .int p.2])
theorem PV.same {H H' : Hp} {v : V} {p : Int × Int} (s : Same H H') (h : PV H v p) : PV H' v p := by
  obtain ⟨t, e, h⟩ := h
  exact ⟨t, e, s _ _ h⟩
theorem PV.grow {H : Hp} {D : Addr} {acc acc' : List V} {v : V} {p : Int × Int} (hD : H D = some (.lst acc)) (h : PV H v p) : PV (upd H D (.lst acc')) v p := by
  obtain ⟨t, e, h⟩ := h
  refine ⟨t, e, ?_⟩
  rw [upd_ne (ne_of h hD (by intro q; cases q))]
  exact h
theorem Runs.grow {H : Hp} {D a : Addr} {acc acc' : List V} {ws : List Run} (hD : H D = some (.lst acc)) (n : a ≠ D) (h : Runs H a ws) : Runs (upd H D (.lst acc')) a ws := by
  obtain ⟨xs, hx, hp⟩ := h
  refine ⟨xs, ?_, prs_grow hD hp⟩
  rw [upd_ne n]
  exact hx
/-- a list of runs apart from two others -/
def WL (H : Hp) (M N : Addr) (v : V) (ws : List Run) : Prop := ∃ a, v = .ref a ∧ a ≠ M ∧ a ≠ N ∧ Runs H a ws
theorem WL.same {H H' : Hp} {M N : Addr} {v : V} {ws : List Run} (s : Same H H') (h : WL H M N v ws) : WL H' M N v ws := by
  obtain ⟨a, e, n1, n2, h⟩ := h
  exact ⟨a, e, n1, n2, h.same s⟩
/-- what the play keeps -/
structure Pl (H0 H : Hp) (W M N : Addr) (ws0 : List Run) (ks ls : List Str) : Prop where
  sm : Same H0 H
  wm : W ≠ M
  wn : W ≠ N
  wr : Runs H W (plA ws0 0 ls)
  ms : ∃ xs, H M = some (.lst xs) ∧ Paired (WL H M N) xs (plMs ws0 ks)
  ps : ∃ ys, H N = some (.lst ys) ∧ Paired (PV H) ys (psR ws0 0 ls)
theorem flat_one {α : Type} (x : α) : ∀ n : Nat, (List.replicate n [x]).flatten = List.replicate n x
  | 0 => rfl
  | n + 1 => by
    rw [List.replicate_succ, List.flatten_cons, flat_one x n]
    rfl
theorem paired_rep {α β : Type} {F : α → β → Prop} {a : α} {b : β} (h : F a b) : ∀ n : Nat, Paired F (List.replicate n a) (List.replicate n b)
  | 0 => .nil
  | n + 1 => .cons h (paired_rep h n)
theorem len_items {rs : List Run} (h : ∀ r ∈ rs, 1 ≤ r.2 ∧ r.2 ≤ 1000) : (itR rs).length ≤ 1000 * rs.length := by
  induction rs with
  | nil => exact Nat.le_refl _
  | cons r t ih =>
    have e : itR (r :: t) = List.replicate r.2.toNat r.1 ++ itR t := rfl
    have h1 := h r (List.mem_cons_self ..)
    have h2 := ih fun x hx => h x (List.mem_cons_of_mem _ hx)
    rw [e, List.length_append, List.length_replicate, List.length_cons]
    omega
end UP

set_option Elab.async false
set_option linter.all false
set_option maxRecDepth 100000
set_option maxHeartbeats 4000000
namespace UP
open PySem PySem.Spec PyProof.Rows L2
section
variable {P : Program} {w : World} {K : PySem.W.Frag} {mg : Str → Option Value} {base : Heap}
end
end UP

set_option Elab.async false
set_option linter.all false
set_option maxRecDepth 100000
set_option maxHeartbeats 4000000
namespace UP
open PySem PySem.Spec PyProof.Rows L2
/-! ### one arrival after the other -/
def stI (ks : List Str) (st : Option Run) : Option Run := ks.foldl (fun s k => stepR s k 1) st
theorem stI_app (l m : List Str) (st : Option Run) : stI (l ++ m) st = stI m (stI l st) := List.foldl_append ..
theorem step_same {r : Run} {k : Str} {c : Int} (h : r.1 = k) : stepR (some r) k c = some (k, r.2 + c) := if_pos h
theorem step_other {r : Run} {k : Str} {c : Int} (h : r.1 ≠ k) : stepR (some r) k c = if 0 < r.2 - c then some (r.1, r.2 - c) else if r.2 - c = 0 then none else some (k, -(r.2 - c)) := if_neg h
theorem step_step {s : Option Run} {k : Str} {c : Int} (h : PosO s) (hc : 1 ≤ c) : stepR (stepR s k 1) k c = stepR s k (1 + c) := by
  cases s with
  | none => exact step_same (r := (k, 1)) rfl
  | some r =>
    have r1 := h r rfl
    by_cases e : r.1 = k
    · rw [step_same e, step_same e, step_same (r := (k, r.2 + 1)) rfl]
      show some (k, r.2 + 1 + c) = _
      rw [Int.add_assoc]
    · rw [step_other e, step_other e]
      by_cases h1 : 0 < r.2 - 1
      · rw [if_pos h1, step_other (r := (r.1, r.2 - 1)) e]
        show (if 0 < r.2 - 1 - c then some (r.1, r.2 - 1 - c) else if r.2 - 1 - c = 0 then none else some (k, -(r.2 - 1 - c))) = _
        rw [show r.2 - 1 - c = r.2 - (1 + c) by omega]
      · have e2 : r.2 - 1 = 0 := by omega
        rw [if_neg h1, if_pos e2, if_neg (by omega), if_neg (by omega)]
        show some (k, c) = _
        rw [show -(r.2 - (1 + c)) = c by omega]
theorem it_step : ∀ (n : Nat) (s : Option Run) (k : Str), PosO s → stI (List.replicate (n + 1) k) s = stepR s k ((n : Int) + 1)
  | 0, s, k, _ => rfl
  | n + 1, s, k, h => by
    show stI (List.replicate (n + 1) k) (stepR s k 1) = _
    rw [it_step n _ k (stepR_pos h (by decide)), step_step h (by omega)]
    congr 1
    omega
theorem st_items : ∀ (rs : List Run) (st : Option Run), PosO st → (∀ r ∈ rs, 1 ≤ r.2) → stR rs st = stI (itR rs) st
  | [], st, _, _ => rfl
  | r :: t, st, h, k => by
    have c1 := k r (List.mem_cons_self ..)
    have e : itR (r :: t) = List.replicate r.2.toNat r.1 ++ itR t := rfl
    obtain ⟨n, hn⟩ : ∃ n : Nat, r.2.toNat = n + 1 := ⟨r.2.toNat - 1, by omega⟩
    rw [e, stI_app, hn, it_step n _ _ h, stR_cons, show ((n : Int) + 1) = r.2 by omega]
    exact st_items t _ (stepR_pos h c1) fun x hx => k x (List.mem_cons_of_mem _ hx)
theorem take_app {α : Type} : ∀ (l m : List α) (n : Nat), (l ++ m).take n = l.take n ++ m.take (n - l.length)
  | [], m, n => by
    rw [List.nil_append, List.take_nil, List.nil_append, List.length_nil, Nat.sub_zero]
  | x :: t, m, 0 => by
    rw [List.take_zero, List.take_zero, Nat.zero_sub, List.take_zero]
    rfl
  | x :: t, m, n + 1 => by
    rw [List.cons_append, List.take_succ_cons, take_app t m n, List.take_succ_cons, List.length_cons, Nat.add_sub_add_right]
    rfl
theorem it_app (l m : List Run) : itR (l ++ m) = itR l ++ itR m := List.flatMap_append ..
theorem cut_items (e : Int) : ∀ (rs : List Run) (b : Int), 0 ≤ b → (∀ r ∈ rs, 1 ≤ r.2) → itR (cutR 0 e b rs) = (itR rs).take (e - b).toNat
  | [], b, _, _ => by
    show ([] : List Str) = ([] : List Str).take _
    rw [List.take_nil]
  | r :: t, b, hb, k => by
    have c1 := k r (List.mem_cons_self ..)
    have ih := cut_items e t (b + r.2) (by omega) fun x hx => k x (List.mem_cons_of_mem _ hx)
    have e1 : cutR 0 e b (r :: t) = pieceR b 0 e r ++ cutR 0 e (b + r.2) t := rfl
    have e2 : itR (r :: t) = List.replicate r.2.toNat r.1 ++ itR t := rfl
    rw [e1, it_app, ih, e2, take_app, List.length_replicate, List.take_replicate, show (e - (b + r.2)).toNat = (e - b).toNat - r.2.toNat by omega]
    congr 1
    have es : sizeR b 0 e r.2 = (if b + r.2 < e then b + r.2 else e) - b := by
      unfold sizeR
      by_cases h0 : b > 0
      · rw [if_pos h0]
      · rw [if_neg h0, show b = 0 by omega]
    by_cases hs : 0 < sizeR b 0 e r.2
    · rw [show pieceR b 0 e r = [(r.1, sizeR b 0 e r.2)] from if_pos hs]
      show List.replicate (sizeR b 0 e r.2).toNat r.1 ++ [] = _
      rw [List.append_nil]
      congr 1
      rw [es] at hs ⊢
      split <;> omega
    · rw [show pieceR b 0 e r = [] from if_neg hs]
      rw [es] at hs
      rw [show min (e - b).toNat r.2.toNat = 0 by split at hs <;> omega]
      rfl
theorem len_it : ∀ (rs : List Run), (∀ r ∈ rs, 1 ≤ r.2) → ((itR rs).length : Int) = lenR rs
  | [], _ => rfl
  | r :: t, k => by
    have c1 := k r (List.mem_cons_self ..)
    have ih := len_it t fun x hx => k x (List.mem_cons_of_mem _ hx)
    have e2 : itR (r :: t) = List.replicate r.2.toNat r.1 ++ itR t := rfl
    rw [e2, List.length_append, List.length_replicate, lenR_cons]
    omega
/-! ### what is told of waiting items -/
def Uni (ws : List Run) : Prop := ∀ x ∈ ws, ∀ y ∈ ws, x.1 = y.1
theorem uni_plS {ws : List Run} {k : Str} {n : Nat} (h : Uni ws) : Uni (plS ws k n) := by
  cases ws with
  | nil =>
    intro x hx y hy
    rw [List.mem_singleton.mp (show x ∈ [(k, (n : Int))] from hx), List.mem_singleton.mp (show y ∈ [(k, (n : Int))] from hy)]
  | cons r t =>
    by_cases e : r.1 = k
    · rw [show plS (r :: t) k n = (r :: t) ++ [(k, (n : Int))] from if_pos e]
      have all : ∀ x ∈ (r :: t) ++ [(k, (n : Int))], x.1 = k := by
        intro x hx
        rcases List.mem_append.mp hx with z | z
        · rw [h x z r (List.mem_cons_self ..)]
          exact e
        · rw [List.mem_singleton.mp z]
      intro x hx y hy
      rw [all x hx, all y hy]
    · rw [show plS (r :: t) k n = t from if_neg e]
      exact fun x hx y hy => h x (List.mem_cons_of_mem _ hx) y (List.mem_cons_of_mem _ hy)
theorem told_plS {ws : List Run} {k : Str} {n : Nat} (h : Uni ws) : toldR (plS ws k n) = stepR (toldR ws) k 1 := by
  cases ws with
  | nil => rfl
  | cons r t =>
    by_cases e : r.1 = k
    · rw [show plS (r :: t) k n = (r :: t) ++ [(k, (n : Int))] from if_pos e]
      show some (r.1, (((r :: t) ++ [(k, (n : Int))]).length : Int)) = stepR (some (r.1, ((r :: t).length : Int))) k 1
      rw [step_same (r := (r.1, ((r :: t).length : Int))) e, List.length_append, e]
      show some (k, (((r :: t).length + 1 : Nat) : Int)) = some (k, ((r :: t).length : Int) + 1)
      rw [Int.natCast_add]
      rfl
    · rw [show plS (r :: t) k n = t from if_neg e]
      show toldR t = stepR (some (r.1, ((r :: t).length : Int))) k 1
      rw [step_other (r := (r.1, ((r :: t).length : Int))) e]
      cases t with
      | nil => rfl
      | cons x u =>
        have ex : x.1 = r.1 := h x (List.mem_cons_of_mem _ (List.mem_cons_self ..)) r (List.mem_cons_self ..)
        show some (x.1, ((x :: u).length : Int)) = if 0 < ((r :: x :: u).length : Int) - 1 then some (r.1, ((r :: x :: u).length : Int) - 1) else _
        rw [List.length_cons, List.length_cons, List.length_cons, if_pos (by omega), ex]
        congr 2
        omega
theorem told_plA : ∀ (l : List Str) (ws : List Run) (n : Nat), Uni ws → toldR (plA ws n l) = stI l (toldR ws)
  | [], _, _, _ => rfl
  | k :: t, ws, n, h => by
    show toldR (plA (plS ws k n) (n + 1) t) = stI t (stepR (toldR ws) k 1)
    rw [told_plA t _ _ (uni_plS h), told_plS h]
theorem uni_w0 (st : Option Run) : Uni (w0R st) := by
  cases st with
  | none => intro x hx; cases hx
  | some r =>
    intro x hx y hy
    rw [List.eq_of_mem_replicate hx, List.eq_of_mem_replicate hy]
theorem told_w0 {st : Option Run} (h : PosO st) : toldR (w0R st) = st := by
  cases st with
  | none => rfl
  | some r =>
    have r1 := h r rfl
    obtain ⟨n, hn⟩ : ∃ n : Nat, r.2.toNat = n + 1 := ⟨r.2.toNat - 1, by omega⟩
    show toldR (List.replicate r.2.toNat (r.1, (-1 : Int))) = some r
    rw [hn, List.replicate_succ]
    show some (r.1, (((r.1, (-1 : Int)) :: List.replicate n (r.1, (-1 : Int))).length : Int)) = some r
    rw [List.length_cons, List.length_replicate, show ((n + 1 : Nat) : Int) = r.2 by omega]
/-! ### all counts multiplied -/
def scO (t : Int) (st : Option Run) : Option Run := st.map fun r => (r.1, r.2 * t)
theorem lt_sc {a b t : Int} (ht : 0 < t) : a * t < b * t ↔ a < b :=
  ⟨fun h => by
    by_cases z : a < b
    · exact z
    · have := Int.mul_le_mul_of_nonneg_right (show b ≤ a by omega) (Int.le_of_lt ht)
      omega, fun h => Int.mul_lt_mul_of_pos_right h ht⟩
theorem size_sc {b s e c t : Int} (ht : 0 < t) : sizeR (b * t) (s * t) (e * t) (c * t) = sizeR b s e c * t := by
  unfold sizeR
  rw [← Int.add_mul, Int.sub_mul]
  congr 1
  · by_cases h : b + c < e
    · rw [if_pos h, if_pos ((lt_sc ht).mpr h)]
    · rw [if_neg h, if_neg fun z => h ((lt_sc ht).mp z)]
  · by_cases h : b > s
    · rw [if_pos h, if_pos ((lt_sc ht).mpr h)]
    · rw [if_neg h, if_neg fun z => h ((lt_sc ht).mp z)]
theorem pos_sc {a t : Int} (ht : 0 < t) : 0 < a * t ↔ 0 < a := by
  have := lt_sc (a := 0) (b := a) ht
  rw [Int.zero_mul] at this
  exact this
theorem piece_sc {b s e t : Int} {r : Run} (ht : 0 < t) : pieceR (b * t) (s * t) (e * t) (r.1, r.2 * t) = scR t (pieceR b s e r) := by
  unfold pieceR
  show (if 0 < sizeR (b * t) (s * t) (e * t) (r.2 * t) then [(r.1, sizeR (b * t) (s * t) (e * t) (r.2 * t))] else []) = _
  rw [size_sc ht]
  by_cases h : 0 < sizeR b s e r.2
  · rw [if_pos h, if_pos ((pos_sc ht).mpr h)]
    rfl
  · rw [if_neg h, if_neg fun z => h ((pos_sc ht).mp z)]
    rfl
theorem cut_sc {s e t : Int} (ht : 0 < t) : ∀ (rs : List Run) (b : Int), cutR (s * t) (e * t) (b * t) (scR t rs) = scR t (cutR s e b rs)
  | [], _ => rfl
  | r :: u, b => by
    have ih := cut_sc (s := s) (e := e) ht u (b + r.2)
    show pieceR (b * t) (s * t) (e * t) (r.1, r.2 * t) ++ cutR (s * t) (e * t) (b * t + r.2 * t) (scR t u) = scR t (pieceR b s e r ++ cutR s e (b + r.2) u)
    rw [← Int.add_mul, ih, piece_sc ht]
    unfold scR
    rw [List.map_append]
theorem step_sc {st : Option Run} {k : Str} {c t : Int} (ht : 0 < t) : stepR (scO t st) k (c * t) = scO t (stepR st k c) := by
  cases st with
  | none => rfl
  | some r =>
    show stepR (some (r.1, r.2 * t)) k (c * t) = _
    by_cases e : r.1 = k
    · rw [step_same (r := (r.1, r.2 * t)) e, step_same e]
      show some (k, r.2 * t + c * t) = some (k, (r.2 + c) * t)
      rw [Int.add_mul]
    · rw [step_other (r := (r.1, r.2 * t)) e, step_other e]
      show (if 0 < r.2 * t - c * t then some (r.1, r.2 * t - c * t) else if r.2 * t - c * t = 0 then none else some (k, -(r.2 * t - c * t))) = _
      rw [← Int.sub_mul]
      by_cases h : 0 < r.2 - c
      · rw [if_pos h, if_pos ((pos_sc ht).mpr h)]
        rfl
      · rw [if_neg h, if_neg fun z => h ((pos_sc ht).mp z)]
        by_cases h2 : r.2 - c = 0
        · rw [if_pos h2, h2, Int.zero_mul, if_pos rfl]
          rfl
        · have h3 : (r.2 - c) * t ≠ 0 := Int.mul_ne_zero h2 (by omega)
          rw [if_neg h2, if_neg h3]
          show some (k, -((r.2 - c) * t)) = some (k, -(r.2 - c) * t)
          rw [Int.neg_mul]
theorem st_sc {t : Int} (ht : 0 < t) : ∀ (rs : List Run) (st : Option Run), stR (scR t rs) (scO t st) = scO t (stR rs st)
  | [], _ => rfl
  | r :: u, st => by
    show stR (scR t u) (stepR (scO t st) r.1 (r.2 * t)) = scO t (stR u (stepR st r.1 r.2))
    rw [step_sc ht, st_sc ht u]
theorem len_sc {t : Int} : ∀ (rs : List Run), lenR (scR t rs) = lenR rs * t
  | [] => by
    show (0 : Int) = 0 * t
    rw [Int.zero_mul]
  | r :: u => by
    show lenR ((r.1, r.2 * t) :: scR t u) = _
    rw [lenR_cons, lenR_cons, len_sc u, Int.add_mul]
/-- the multiplied state at a multiplied moment -/
theorem whole_sc {t : Int} {rs : List Run} {st : Option Run} {p : Nat} (ht : 0 < t) (h : PosO st) (k : ∀ r ∈ rs, 1 ≤ r.2) :
    stR (cutR 0 ((p : Int) * t) 0 (scR t rs)) (scO t st) = scO t (toldR (plA (w0R st) 0 ((itR rs).take p))) := by
  have e := cut_sc (s := 0) (e := (p : Int)) ht rs 0
  rw [Int.zero_mul] at e
  rw [e, st_sc ht, told_plA _ _ _ (uni_w0 st), told_w0 h, st_items _ _ h cutR_pos, cut_items _ _ _ (Int.le_refl _) k, Int.sub_zero, Int.toNat_natCast]
end UP

set_option Elab.async false
set_option linter.all false
set_option maxRecDepth 100000
set_option maxHeartbeats 4000000
namespace UP
open PySem PySem.Spec PyProof.Rows L2
theorem room70 {A : Around} {k : Nat} (hr : Room k A) : A.units + 70 < cLine := by
  have := hr.un
  omega
theorem call_list_ofK {X : Cx} {K : PySem.W.Frag} (h : X.K = K) : CallR X (.type "list") (fun xs H Q => ∃ p ys, xs = [.ref p] ∧ (SqL K H p ys ∨ SqT K H p ys) ∧ ∀ l, H l = none → Q (.ref l) (upd H l (.lst ys))) := by
  subst h
  exact call_list_of
/-! ### data that a repr takes -/
structure Nice (w n : Nat) (d : PyData) : Prop where
  can : d.canLay0 = true
  dep : d.depth ≤ n
  sho : d.showable = true
  lea : d.leavesShort 100 = true
  wei : d.weight ≤ w
theorem Nice.mono {w w' n n' : Nat} {d : PyData} (h : Nice w n d) (h1 : w ≤ w') (h2 : n ≤ n') : Nice w' n' d := ⟨h.can, Nat.le_trans h.dep h2, h.sho, h.lea, Nat.le_trans h.wei h1⟩
theorem Nice.fits {w n : Nat} {d : PyData} (h : Nice w n d) (hw : w ≤ 150000) (hn : n ≤ 64) : d.showable = true ∧ SeqAt.shaped d = true ∧ d.shown.length ≤ sizeLine := by
  refine ⟨h.sho, ?_, ?_⟩
  · unfold SeqAt.shaped
    rw [h.can]
    have := h.dep
    exact decide_eq_true (by omega)
  · have h1 := PyData.shown_le 100 (by decide) d h.lea
    have h2 := h.wei
    have h3 : d.shown.length ≤ 16000000 := by omega
    exact Nat.le_trans h3 (by decide)
theorem nice_none : Nice 0 0 .none := ⟨rfl, Nat.le_refl _, rfl, rfl, Nat.le_refl _⟩
theorem nice_str {s : Str} (h : KindOk s) : Nice 8 0 (.str s) := by
  refine ⟨?_, Nat.le_refl _, rfl, ?_, h.2.1⟩
  · rw [PyData.canLay0]
    exact h.str
  · rw [PyData.leavesShort, List.all_eq_true]
    intro c hc
    have := h.2.2 c hc
    exact decide_eq_true (by omega)
theorem nice_int {i : Int} (h : i.natAbs < 10 ^ 60) : Nice 201 0 (.int i) := by
  have h2 : i.natAbs < 2 ^ 200 := Nat.lt_of_lt_of_le h (by decide)
  have h3 : i.natAbs.log2 < 200 := by
    by_cases z : i.natAbs = 0
    · rw [z]
      decide
    · exact (Nat.log2_lt z).mpr h2
  refine ⟨by rw [PyData.canLay0], Nat.le_refl _, ?_, ?_, ?_⟩
  · rw [PyData.showable]
    exact decide_eq_true (by omega)
  · rw [PyData.leavesShort]
    refine decide_eq_true ?_
    have e := int_text_length_le10 (k := 60) (by decide) h
    show (Str.ofString (toString i)).length ≤ 100
    rw [PySem.ofString_length]
    omega
  · rw [PyData.weight]
    split <;> omega
theorem nice_items {w n : Nat} : ∀ {ds : List PyData}, (∀ d ∈ ds, Nice w n d) → PyData.canLayAll0 ds = true ∧ PyData.depthAll ds ≤ n ∧ PyData.showableAll ds = true ∧ PyData.leavesShortAll 100 ds = true ∧ PyData.weightAll ds ≤ (w + 1) * ds.length
  | [], _ => ⟨rfl, Nat.zero_le _, rfl, rfl, Nat.zero_le _⟩
  | d :: t, h => by
    have h1 := h d (List.mem_cons_self ..)
    obtain ⟨a, b, c, e, f⟩ := nice_items (ds := t) fun x hx => h x (List.mem_cons_of_mem _ hx)
    refine ⟨?_, ?_, ?_, ?_, ?_⟩
    · rw [PyData.canLayAll0, h1.can, a]
      rfl
    · rw [PyData.depthAll]
      exact Nat.max_le.mpr ⟨h1.dep, b⟩
    · rw [PyData.showableAll, h1.sho, c]
      rfl
    · rw [PyData.leavesShortAll, h1.lea, e]
      rfl
    · have h2 := h1.wei
      rw [PyData.weightAll, List.length_cons, Nat.mul_succ]
      omega
theorem nice_list {w n : Nat} {ds : List PyData} (h : ∀ d ∈ ds, Nice w n d) : Nice ((w + 1) * ds.length) (n + 1) (.list ds) := by
  obtain ⟨a, b, c, e, f⟩ := nice_items h
  exact ⟨by rw [PyData.canLay0]; exact a, by rw [PyData.depth]; omega, by rw [PyData.showable]; exact c, by rw [PyData.leavesShort]; exact e, by rw [PyData.weight]; exact f⟩
theorem nice_tup {w n : Nat} {ds : List PyData} (h : ∀ d ∈ ds, Nice w n d) : Nice ((w + 1) * ds.length) (n + 1) (.tuple ds) := by
  obtain ⟨a, b, c, e, f⟩ := nice_items h
  exact ⟨by rw [PyData.canLay0]; exact a, by rw [PyData.depth]; omega, by rw [PyData.showable]; exact c, by rw [PyData.leavesShort]; exact e, by rw [PyData.weight]; exact f⟩
/-- v stands for d at H and at every heap that keeps H -/
def DpS (K : PySem.W.Frag) (H : Hp) (v : V) (d : PyData) : Prop := ∀ H', Same H H' → Dp K H' v d
theorem DpS.same {K : PySem.W.Frag} {H H' : Hp} {v : V} {d : PyData} (s : Same H H') (h : DpS K H v d) : DpS K H' v d := fun H2 s2 => h H2 (s.trans s2)
theorem dps_all {K : PySem.W.Frag} {H : Hp} {F : PyData → Prop} : ∀ {xs : List V}, (∀ x ∈ xs, ∃ d, DpS K H x d ∧ F d) → ∃ ds, (∀ H', Same H H' → DpAll K H' xs ds) ∧ ds.length = xs.length ∧ ∀ d ∈ ds, F d
  | [], _ => ⟨[], fun _ _ => .nil, rfl, fun d h => by cases h⟩
  | x :: t, h => by
    obtain ⟨d, h1, h2⟩ := h x (List.mem_cons_self ..)
    obtain ⟨ds, a, b, c⟩ := dps_all (xs := t) fun y hy => h y (List.mem_cons_of_mem _ hy)
    refine ⟨d :: ds, fun H' s => .cons (h1 H' s) (a H' s), congrArg Nat.succ b, fun z hz => ?_⟩
    rcases List.mem_cons.mp hz with e | e
    · rw [e]
      exact h2
    · exact c z e
theorem dps_seq {K : PySem.W.Frag} {H : Hp} {a : Addr} {xs : List V} {w n : Nat} (hx : Sq2 H a xs) (h : ∀ x ∈ xs, ∃ d, DpS K H x d ∧ Nice w n d) : ∃ d, DpS K H (.ref a) d ∧ Nice ((w + 1) * xs.length) (n + 1) d := by
  obtain ⟨ds, h1, h2, h3⟩ := dps_all h
  rcases hx with z | z
  · exact ⟨.list ds, fun H' s => .lst (.of (s _ _ z)) (h1 H' s), by rw [← h2]; exact nice_list h3⟩
  · exact ⟨.tuple ds, fun H' s => .tup (.of (s _ _ z)) (h1 H' s), by rw [← h2]; exact nice_tup h3⟩
theorem dps_run {K : PySem.W.Frag} {H : Hp} {v : V} {r : Run} (h : RunG H v r) (k : KindOk r.1) (c : r.2.natAbs < 10 ^ 60) : ∃ d, DpS K H v d ∧ Nice 404 1 d := by
  obtain ⟨t, rfl, h⟩ := h
  have := dps_seq (K := K) (w := 201) (n := 0) h fun x hx => by
    rcases List.mem_cons.mp hx with e | e
    · rw [e]
      exact ⟨.str r.1, fun _ _ => .str _, (nice_str k).mono (by decide) (Nat.le_refl _)⟩
    · rw [List.mem_singleton.mp e]
      exact ⟨.int r.2, fun _ _ => .int _, nice_int c⟩
  exact this
theorem dps_runs {K : PySem.W.Frag} {H : Hp} {v : V} {rs : List Run} (h : RunsG H v rs) (k : ∀ r ∈ rs, KindOk r.1 ∧ r.2.natAbs < 10 ^ 60) (l : rs.length ≤ 100) : ∃ d, DpS K H v d ∧ Nice 41000 2 d := by
  obtain ⟨a, xs, rfl, hx, hp⟩ := h
  have lx : xs.length = rs.length := Paired.len hp
  obtain ⟨d, h1, h2⟩ := dps_seq (K := K) (w := 404) (n := 1) hx fun x hx => by
    obtain ⟨i, hi, e⟩ := List.mem_iff_getElem.mp hx
    obtain ⟨r, er, hr⟩ := Paired.at hp (List.getElem?_eq_getElem hi)
    rw [e] at hr
    have := k r (List.mem_of_getElem? er)
    exact dps_run hr this.1 this.2
  exact ⟨d, h1, h2.mono (by rw [lx]; omega) (Nat.le_refl _)⟩
theorem dps_st {K : PySem.W.Frag} {H : Hp} {v : V} {st : Option Run} (h : StG H v st) (k : ∀ r, st = some r → KindOk r.1 ∧ r.2.natAbs < 10 ^ 60) : ∃ d, DpS K H v d ∧ Nice 41000 2 d := by
  cases st with
  | none =>
    cases h
    exact ⟨.none, fun _ _ => .non, nice_none.mono (by decide) (by decide)⟩
  | some r =>
    obtain ⟨d, h1, h2⟩ := dps_run (K := K) h (k r rfl).1 (k r rfl).2
    exact ⟨d, h1, h2.mono (by decide) (by decide)⟩
theorem dps_two {K : PySem.W.Frag} {H : Hp} {a : Addr} {x y : V} (h : H a = some (.lst [x, y])) (hx : ∃ d, DpS K H x d ∧ Nice 41000 2 d) (hy : ∃ d, DpS K H y d ∧ Nice 41000 2 d) : ∃ d, DpS K H (.ref a) d ∧ Nice 82002 3 d := by
  have := dps_seq (K := K) (a := a) (xs := [x, y]) (w := 41000) (n := 2) (.inl h) fun z hz => by
    rcases List.mem_cons.mp hz with e | e
    · rw [e]
      exact hx
    · rw [List.mem_singleton.mp e]
      exact hy
  exact this
/-! ### dressed and undressed -/
def dP (r : Run) : PyData := .list [.str r.1, .int r.2]
def dSq (rs : List Run) : PyData := .list (rs.map dP)
def dSt : Option Run → PyData
  | none => .none
  | some r => dP r
theorem sim_pair {N : Addr → Prop} {H : Hp} {n : Nat} (r : Run) : Paired (Sim N H n) [V.str r.1, V.int r.2] [PyData.str r.1, PyData.int r.2] := .cons (Sim.dsc (.inr (.inr (.inr ⟨_, rfl, rfl⟩)))) (.cons (Sim.dsc (.inr (.inr (.inl ⟨_, rfl, rfl⟩)))) .nil)
theorem sim_run {H : Hp} {sp : Addr} {v : V} {r : Run} {n : Nat} (z : Spr H sp) (h : RunV H v r) : Sim (· ≠ sp) H (n + 1) v (dP r) := by
  obtain ⟨t, rfl, h⟩ := h
  obtain ⟨_, _, _, hs, _⟩ := z
  exact .inr ⟨t, _, _, rfl, ne_of h hs (by intro q; cases q), .inr h, rfl, sim_pair r, Nat.le_of_ble_eq_true rfl⟩
theorem sim_seq {H : Hp} {sp a : Addr} {rs : List Run} (z : Spr H sp) (h : Runs H a rs) (l : rs.length ≤ 1000) : Sim (· ≠ sp) H 2 (.ref a) (dSq rs) := by
  have na := Runs.ne z h
  obtain ⟨xs, hx, hp⟩ := h
  refine .inr ⟨a, xs, _, rfl, na, .inl hx, rfl, ?_, by rw [List.length_map]; exact l⟩
  have gen : ∀ {xs : List V} {rs : List Run}, Paired (RunV H) xs rs → Paired (Sim (· ≠ sp) H 1) xs (rs.map dP) := by
    intro xs rs h
    induction h with
    | nil => exact .nil
    | cons h _ ih => exact .cons (sim_run z h) ih
  exact gen hp
theorem sim_st {H : Hp} {sp : Addr} {v : V} {st : Option Run} (z : Spr H sp) (h : StV H v st) : Sim (· ≠ sp) H 2 v (dSt st) := by
  cases st with
  | none =>
    cases h
    exact .inl (.inl ⟨rfl, rfl⟩)
  | some r => exact sim_run z h
theorem sim_one {N : Addr → Prop} {H : Hp} {n : Nat} {v : V} {r : Run} (h : Sim N H (n + 1) v (dP r)) : RunG H v r := by
  rcases h with h | ⟨a, xs, ds, rfl, _, hx, e, p, _⟩
  · exact (dsc_lst h).elim
  · cases e
    have scal : ∀ {m : Nat} {x : V} {s : Str}, Sim N H m x (.str s) → x = .str s := by
      intro m x s h
      have h : Dsc x (.str s) := by
        cases m with
        | zero => exact h
        | succ m =>
          rcases h with h | ⟨_, _, _, _, _, _, e, _⟩
          · exact h
          · cases e
      rcases h with ⟨_, e⟩ | ⟨_, _, e⟩ | ⟨_, _, e⟩ | ⟨y, e1, e⟩ <;> cases e
      exact e1
    have scai : ∀ {m : Nat} {x : V} {s : Int}, Sim N H m x (.int s) → x = .int s := by
      intro m x s h
      have h : Dsc x (.int s) := by
        cases m with
        | zero => exact h
        | succ m =>
          rcases h with h | ⟨_, _, _, _, _, _, e, _⟩
          · exact h
          · cases e
      rcases h with ⟨_, e⟩ | ⟨_, _, e⟩ | ⟨y, e1, e⟩ | ⟨_, _, e⟩ <;> cases e
      exact e1
    cases p with
    | cons h1 p1 =>
      cases p1 with
      | cons h2 p2 =>
        cases p2
        rw [scal h1, scai h2] at hx
        exact ⟨a, rfl, hx⟩
theorem sim_all {N : Addr → Prop} {H : Hp} : ∀ (rs : List Run) (xs : List V), Paired (Sim N H 1) xs (rs.map dP) → Paired (RunG H) xs rs
  | [], xs, h => by
    cases h
    exact .nil
  | r :: t, xs, h => by
    cases h with
    | cons h1 h2 => exact .cons (sim_one h1) (sim_all t _ h2)
theorem sim_runs {N : Addr → Prop} {H : Hp} {v : V} {rs : List Run} (h : Sim N H 2 v (dSq rs)) : RunsG H v rs := by
  rcases h with h | ⟨a, xs, ds, rfl, _, hx, e, p, _⟩
  · exact (dsc_lst h).elim
  · cases e
    refine ⟨a, xs, rfl, hx, ?_⟩
    exact sim_all rs xs p
theorem sim_stg {N : Addr → Prop} {H : Hp} {v : V} {st : Option Run} (h : Sim N H 2 v (dSt st)) : StG H v st := by
  cases st with
  | none =>
    rcases h with h | ⟨_, _, _, _, _, _, e, _⟩
    · rcases h with ⟨e, _⟩ | ⟨_, _, e⟩ | ⟨_, _, e⟩ | ⟨_, _, e⟩
      · exact e
      all_goals cases e
    · cases e
  | some r => exact sim_one h
/-! ### one by one -/
theorem at_moment {rs : List Run} {st : Option Run} {m : Nat} (h : PosO st) (k : ∀ r ∈ rs, 1 ≤ r.2) : stR (cutR 0 (m : Int) 0 rs) st = toldR (plA (w0R st) 0 ((itR rs).take m)) := by
  rw [told_plA _ _ _ (uni_w0 st), told_w0 h, st_items _ _ h cutR_pos, cut_items _ _ _ (Int.le_refl _) k, Int.sub_zero, Int.toNat_natCast]
theorem at_end {rs : List Run} {st : Option Run} (h : PosO st) (k : ∀ r ∈ rs, 1 ≤ r.2) : stR rs st = toldR (plA (w0R st) 0 (itR rs)) := by
  rw [told_plA _ _ _ (uni_w0 st), told_w0 h, st_items _ _ h k]
theorem plMs_get (ws : List Run) (ks : List Str) {n : Nat} (h : n ≤ ks.length) : (plMs ws ks)[n]? = some (plA ws 0 (ks.take n)) := by
  unfold plMs
  rw [List.getElem?_map, List.getElem?_range (by omega)]
  rfl
def dO : Option Run → PyData
  | none => .none
  | some r => dRun r
theorem dt_st {H : Hp} {v : V} {st : Option Run} {n : Nat} (h : StV H v st) : Dt H (n + 1) v (dO st) := by
  cases st with
  | none =>
    cases h
    exact .inl (.inl ⟨rfl, rfl⟩)
  | some r =>
    obtain ⟨t, rfl, h⟩ := h
    refine .inr (.inr ⟨t, _, _, rfl, h, rfl, .cons ?_ (.cons ?_ .nil), Nat.le_of_ble_eq_true rfl⟩)
    · cases n with
      | zero => exact .inr (.inr (.inr ⟨_, rfl, rfl⟩))
      | succ m => exact .inl (.inr (.inr (.inr ⟨_, rfl, rfl⟩)))
    · cases n with
      | zero => exact .inr (.inr (.inl ⟨_, rfl, rfl⟩))
      | succ m => exact .inl (.inr (.inr (.inl ⟨_, rfl, rfl⟩)))
theorem w0_len {st : Option Run} (h : ∀ r, st = some r → r.2 ≤ 1000) : (w0R st).length ≤ 1000 := by
  cases st with
  | none => exact Nat.zero_le _
  | some r =>
    have := h r rfl
    show (List.replicate r.2.toNat (r.1, (-1 : Int))).length ≤ 1000
    rw [List.length_replicate]
    omega
theorem w0_kinds {st : Option Run} (h : StOk st) : ∀ r ∈ w0R st, KindOk r.1 := by
  cases st with
  | none => intro r h; cases h
  | some x =>
    intro r hr
    rw [List.eq_of_mem_replicate hr]
    exact (h x rfl).1
theorem it_kinds {rs : List Run} (h : ∀ r ∈ rs, KindOk r.1) : ∀ k ∈ itR rs, KindOk k := by
  intro k hk
  obtain ⟨r, h1, h2⟩ := List.mem_flatMap.mp hk
  rw [List.eq_of_mem_replicate h2]
  exact h r h1
end UP

set_option Elab.async false
set_option linter.all false
set_option maxRecDepth 100000
set_option maxHeartbeats 4000000
namespace UP
open PySem PySem.Spec PyProof.Rows L2
abbrev Rg := Int × Int
/-! ### ranges without their first positions -/
def rmR (p : Rg) (n : Int) : Int := if p.2 - p.1 + 1 < n then p.2 - p.1 + 1 else n
def wfP (p : Rg) (n : Int) : List Rg := if p.1 + rmR p n ≤ p.2 then [(p.1 + rmR p n, p.2)] else []
def wfR : List Rg → Int → List Rg
  | [], _ => []
  | p :: t, n => wfP p n ++ wfR t (n - rmR p n)
/-- the number that is left to be removed behind some ranges -/
def wfN : List Rg → Int → Int
  | [], n => n
  | p :: t, n => wfN t (n - rmR p n)
theorem wfN_snoc : ∀ (l : List Rg) (p : Rg) (n : Int), wfN (l ++ [p]) n = wfN l n - rmR p (wfN l n)
  | [], _, _ => rfl
  | x :: t, p, n => wfN_snoc t p (n - rmR x n)
theorem wfR_snoc : ∀ (l : List Rg) (p : Rg) (n : Int), wfR (l ++ [p]) n = wfR l n ++ wfP p (wfN l n)
  | [], p, n => by
    show wfP p n ++ [] = [] ++ wfP p n
    rw [List.append_nil, List.nil_append]
  | x :: t, p, n => by
    show wfP x n ++ wfR (t ++ [p]) (n - rmR x n) = (wfP x n ++ wfR t (n - rmR x n)) ++ wfP p (wfN t (n - rmR x n))
    rw [wfR_snoc t, List.append_assoc]
def adP (st : Option Run) (b : Int) (r : Run) : List Rg := if leavR st r.1 r.2 < r.2 then [(b + leavR st r.1 r.2, b + r.2 - 1)] else []
def waR : List Run → Option Run → Int → List Rg → List Rg
  | [], _, _, R => R
  | r :: t, st, b, R => waR t (stepR st r.1 r.2) (b + r.2) (wfR R (leavR st r.1 r.2) ++ adP st b r)
theorem waR_snoc : ∀ (l : List Run) (r : Run) (st : Option Run) (b : Int) (R : List Rg), waR (l ++ [r]) st b R = wfR (waR l st b R) (leavR (stR l st) r.1 r.2) ++ adP (stR l st) (b + lenR l) r
  | [], r, st, b, R => by
    show wfR R (leavR st r.1 r.2) ++ adP st b r = wfR R (leavR st r.1 r.2) ++ adP st (b + lenR []) r
    rw [lenR_nil, Int.add_zero]
  | x :: t, r, st, b, R => by
    show waR (t ++ [r]) (stepR st x.1 x.2) (b + x.2) (wfR R (leavR st x.1 x.2) ++ adP st b x) = wfR (waR t (stepR st x.1 x.2) (b + x.2) (wfR R (leavR st x.1 x.2) ++ adP st b x)) (leavR (stR (x :: t) st) r.1 r.2) ++ adP (stR (x :: t) st) (b + lenR (x :: t)) r
    rw [waR_snoc t, stR_cons, lenR_cons, Int.add_assoc]
/-! ### all counts multiplied -/
def scP (t : Int) (R : List Rg) : List Rg := R.map fun p => (p.1 * t, p.2 * t + t - 1)
theorem le_sc {a b t : Int} (ht : 0 < t) : a * t ≤ b * t ↔ a ≤ b := by
  have := lt_sc (a := b) (b := a) ht
  exact ⟨fun z => by
    by_cases q : b < a
    · have := this.mpr q
      omega
    · omega, fun z => Int.mul_le_mul_of_nonneg_right z (by omega)⟩
theorem last_sc {a b t : Int} (ht : 0 < t) : a * t ≤ b * t + t - 1 ↔ a ≤ b := by
  have e : (b + 1) * t = b * t + t := by rw [Int.add_mul, Int.one_mul]
  have := lt_sc (a := a) (b := b + 1) ht
  rw [e] at this
  exact ⟨fun z => by have := this.mp (by omega); omega, fun z => by have := this.mpr (by omega); omega⟩
theorem rm_sc {p : Rg} {n t : Int} (ht : 0 < t) : rmR (p.1 * t, p.2 * t + t - 1) (n * t) = rmR p n * t := by
  unfold rmR
  have e : (p.2 * t + t - 1) - p.1 * t + 1 = (p.2 - p.1 + 1) * t := by
    rw [Int.add_mul, Int.sub_mul, Int.one_mul]
    omega
  show (if (p.2 * t + t - 1) - p.1 * t + 1 < n * t then (p.2 * t + t - 1) - p.1 * t + 1 else n * t) = _
  rw [e]
  by_cases g : p.2 - p.1 + 1 < n
  · rw [if_pos g, if_pos ((lt_sc ht).mpr g)]
  · rw [if_neg g, if_neg fun z => g ((lt_sc ht).mp z)]
theorem wfP_sc {p : Rg} {n t : Int} (ht : 0 < t) : wfP (p.1 * t, p.2 * t + t - 1) (n * t) = scP t (wfP p n) := by
  unfold wfP
  rw [rm_sc ht]
  show (if p.1 * t + rmR p n * t ≤ p.2 * t + t - 1 then [(p.1 * t + rmR p n * t, p.2 * t + t - 1)] else []) = _
  rw [← Int.add_mul]
  by_cases g : p.1 + rmR p n ≤ p.2
  · rw [if_pos g, if_pos ((last_sc ht).mpr g)]
    rfl
  · rw [if_neg g, if_neg fun z => g ((last_sc ht).mp z)]
    rfl
theorem wfR_sc {t : Int} (ht : 0 < t) : ∀ (R : List Rg) (n : Int), wfR (scP t R) (n * t) = scP t (wfR R n)
  | [], _ => rfl
  | p :: u, n => by
    show wfP (p.1 * t, p.2 * t + t - 1) (n * t) ++ wfR (scP t u) (n * t - rmR (p.1 * t, p.2 * t + t - 1) (n * t)) = scP t (wfP p n ++ wfR u (n - rmR p n))
    rw [wfP_sc ht, rm_sc ht, ← Int.sub_mul, wfR_sc ht u]
    unfold scP
    rw [List.map_append]
theorem leav_sc {st : Option Run} {k : Str} {c t : Int} (ht : 0 < t) : leavR (scO t st) k (c * t) = leavR st k c * t := by
  cases st with
  | none =>
    show (0 : Int) = 0 * t
    rw [Int.zero_mul]
  | some x =>
    show (if x.1 = k then 0 else if c * t < x.2 * t then c * t else x.2 * t) = (if x.1 = k then 0 else if c < x.2 then c else x.2) * t
    by_cases e : x.1 = k
    · rw [if_pos e, if_pos e, Int.zero_mul]
    · rw [if_neg e, if_neg e]
      by_cases g : c < x.2
      · rw [if_pos g, if_pos ((lt_sc ht).mpr g)]
      · rw [if_neg g, if_neg fun z => g ((lt_sc ht).mp z)]
theorem adP_sc {st : Option Run} {b t : Int} {r : Run} (ht : 0 < t) : adP (scO t st) (b * t) (r.1, r.2 * t) = scP t (adP st b r) := by
  unfold adP
  rw [leav_sc ht]
  by_cases g : leavR st r.1 r.2 < r.2
  · rw [if_pos g, if_pos ((lt_sc ht).mpr g)]
    show [(b * t + leavR st r.1 r.2 * t, b * t + r.2 * t - 1)] = [((b + leavR st r.1 r.2) * t, (b + r.2 - 1) * t + t - 1)]
    rw [← Int.add_mul, ← Int.add_mul, Int.sub_mul, Int.one_mul]
    congr 2
    omega
  · rw [if_neg g, if_neg fun z => g ((lt_sc ht).mp z)]
    rfl
theorem waR_sc {t : Int} (ht : 0 < t) : ∀ (rs : List Run) (st : Option Run) (b : Int) (R : List Rg), waR (scR t rs) (scO t st) (b * t) (scP t R) = scP t (waR rs st b R)
  | [], _, _, _ => rfl
  | r :: u, st, b, R => by
    show waR (scR t u) (stepR (scO t st) r.1 (r.2 * t)) (b * t + r.2 * t) (wfR (scP t R) (leavR (scO t st) r.1 (r.2 * t)) ++ adP (scO t st) (b * t) (r.1, r.2 * t)) = scP t (waR u (stepR st r.1 r.2) (b + r.2) (wfR R (leavR st r.1 r.2) ++ adP st b r))
    rw [step_sc ht, ← Int.add_mul, leav_sc ht, wfR_sc ht, adP_sc ht]
    have e : scP t (wfR R (leavR st r.1 r.2)) ++ scP t (adP st b r) = scP t (wfR R (leavR st r.1 r.2) ++ adP st b r) := by
      unfold scP
      rw [List.map_append]
    rw [e, waR_sc ht u]
/-! ### the ranges of positions -/
def rgS (t : Int) (F : List Rg) (p : Int) : List Rg := match F.getLast? with
  | none => F ++ [(p * t, p * t + t - 1)]
  | some l => if l.2 = p * t - 1 then F.dropLast ++ [(l.1, p * t + t - 1)] else F ++ [(p * t, p * t + t - 1)]
def rgR (t : Int) (ps : List Int) : List Rg := ps.foldl (rgS t) []
theorem rgS_sc {t : Int} (ht : 0 < t) (F : List Rg) (p : Int) : rgS t (scP t F) p = scP t (rgS 1 F p) := by
  unfold rgS
  have eg : (scP t F).getLast? = F.getLast?.map fun p => (p.1 * t, p.2 * t + t - 1) := by
    unfold scP
    rw [List.getLast?_map]
  rw [eg]
  cases F.getLast? with
  | none =>
    show scP t F ++ [(p * t, p * t + t - 1)] = scP t (F ++ [(p * 1, p * 1 + 1 - 1)])
    unfold scP
    rw [List.map_append, Int.mul_one, show p + 1 - 1 = p by omega]
    rfl
  | some l =>
    show (if l.2 * t + t - 1 = p * t - 1 then (scP t F).dropLast ++ [(l.1 * t, p * t + t - 1)] else scP t F ++ [(p * t, p * t + t - 1)]) = scP t (if l.2 = p * 1 - 1 then F.dropLast ++ [(l.1, p * 1 + 1 - 1)] else F ++ [(p * 1, p * 1 + 1 - 1)])
    rw [Int.mul_one, show p + 1 - 1 = p by omega]
    have iff : l.2 * t + t - 1 = p * t - 1 ↔ l.2 = p - 1 := by
      have e : (l.2 + 1) * t = l.2 * t + t := by rw [Int.add_mul, Int.one_mul]
      constructor
      · intro z
        have a := (le_sc (a := l.2 + 1) (b := p) ht).mp (by omega)
        have b := (le_sc (a := p) (b := l.2 + 1) ht).mp (by omega)
        omega
      · intro z
        have : (l.2 + 1) * t = p * t := by rw [show l.2 + 1 = p by omega]
        omega
    by_cases g : l.2 = p - 1
    · rw [if_pos g, if_pos (iff.mpr g)]
      unfold scP
      rw [List.map_append, List.map_dropLast]
      rfl
    · rw [if_neg g, if_neg fun z => g (iff.mp z)]
      unfold scP
      rw [List.map_append]
      rfl
theorem rgR_sc {t : Int} (ht : 0 < t) (ps : List Int) : rgR t ps = scP t (rgR 1 ps) := by
  unfold rgR
  have gen : ∀ (ps : List Int) (F : List Rg), ps.foldl (rgS t) (scP t F) = scP t (ps.foldl (rgS 1) F) := by
    intro ps
    induction ps with
    | nil => intro F; rfl
    | cons p u ih =>
      intro F
      show u.foldl (rgS t) (rgS t (scP t F) p) = scP t (u.foldl (rgS 1) (rgS 1 F p))
      rw [rgS_sc ht, ih]
  exact gen ps []
/-! ### positions -/
def posL (a : Int) : Nat → List Int
  | 0 => []
  | n + 1 => a :: posL (a + 1) n
theorem posL_app : ∀ (m n : Nat) (a : Int), posL a (m + n) = posL a m ++ posL (a + (m : Int)) n
  | 0, n, a => by
    rw [Nat.zero_add, show a + ((0 : Nat) : Int) = a by omega]
    rfl
  | m + 1, n, a => by
    rw [show m + 1 + n = (m + n) + 1 by omega]
    show a :: posL (a + 1) (m + n) = a :: (posL (a + 1) m ++ posL (a + ((m + 1 : Nat) : Int)) n)
    rw [posL_app m n, show a + 1 + (m : Int) = a + ((m + 1 : Nat) : Int) by omega]
theorem posL_len : ∀ (n : Nat) (a : Int), (posL a n).length = n
  | 0, _ => rfl
  | n + 1, a => congrArg Nat.succ (posL_len n _)
theorem posL_drop (a : Int) (n k : Nat) (h : k ≤ n) : (posL a n).drop k = posL (a + (k : Int)) (n - k) := by
  have e : n = k + (n - k) := by omega
  rw [e, posL_app, List.drop_append_of_le_length (by rw [posL_len]; exact Nat.le_refl _), List.drop_of_length_le (by rw [posL_len]; exact Nat.le_refl _), List.nil_append, show k + (n - k) - k = n - k by omega]
def flP (p : Rg) : List Int := posL p.1 (p.2 - p.1 + 1).toNat
def flR (R : List Rg) : List Int := R.flatMap flP
theorem flR_cons (p : Rg) (t : List Rg) : flR (p :: t) = flP p ++ flR t := rfl
theorem flR_app (R S : List Rg) : flR (R ++ S) = flR R ++ flR S := List.flatMap_append ..
/-- ascending, with gaps, below b -/
def Gd : List Rg → Int → Prop
  | [], _ => True
  | p :: t, b => p.1 ≤ p.2 ∧ p.2 < b ∧ (∀ x, t.head? = some x → p.2 + 1 < x.1) ∧ Gd t b
theorem Gd.mono {b b' : Int} (h : b ≤ b') : ∀ {R : List Rg}, Gd R b → Gd R b'
  | [], _ => trivial
  | p :: t, g => ⟨g.1, by have := g.2.1; omega, g.2.2.1, Gd.mono h g.2.2.2⟩
theorem Gd.last {b : Int} : ∀ {R : List Rg}, Gd R b → ∀ l, R.getLast? = some l → l.2 < b
  | [], _, l, h => by cases h
  | [p], g, l, h => by
    have e : p = l := Option.some.inj h
    rw [← e]
    exact g.2.1
  | p :: q :: t, g, l, h => by
    rw [List.getLast?_cons_cons] at h
    exact Gd.last g.2.2.2 l h
theorem Gd.snoc {b : Int} {p : Rg} : ∀ {R : List Rg}, Gd R b → p.1 ≤ p.2 → p.2 < b → (∀ l, R.getLast? = some l → l.2 + 1 < p.1) → Gd (R ++ [p]) b
  | [], _, h1, h2, _ => ⟨h1, h2, (fun x h => by cases h), trivial⟩
  | [q], g, h1, h2, h3 => ⟨g.1, g.2.1, (fun x h => by have e : p = x := Option.some.inj h; rw [← e]; exact h3 q rfl), h1, h2, (fun x h => by cases h), trivial⟩
  | q :: r :: t, g, h1, h2, h3 => by
    have ih := Gd.snoc (R := r :: t) g.2.2.2 h1 h2 (fun l hl => h3 l (by rw [List.getLast?_cons_cons]; exact hl))
    exact ⟨g.1, g.2.1, (fun x h => g.2.2.1 x h), ih⟩
theorem rm_le {p : Rg} {n : Int} (h : p.1 ≤ p.2) (hn : 0 ≤ n) : 0 ≤ rmR p n ∧ rmR p n ≤ n ∧ rmR p n ≤ p.2 - p.1 + 1 ∧ (rmR p n < p.2 - p.1 + 1 → rmR p n = n) := by
  unfold rmR
  split <;> omega
theorem wf_zero {b : Int} : ∀ {R : List Rg}, Gd R b → wfR R 0 = R
  | [], _ => rfl
  | p :: t, g => by
    have h := rm_le (p := p) (n := 0) g.1 (Int.le_refl _)
    have e : rmR p 0 = 0 := by omega
    show wfP p 0 ++ wfR t (0 - rmR p 0) = p :: t
    unfold wfP
    rw [e, Int.sub_zero, Int.add_zero, if_pos g.1, wf_zero g.2.2.2]
    rfl
theorem wf_flat {b : Int} : ∀ {R : List Rg} {n : Int}, Gd R b → 0 ≤ n → flR (wfR R n) = (flR R).drop n.toNat
  | [], n, _, _ => by
    show ([] : List Int) = ([] : List Int).drop _
    rw [List.drop_nil]
  | p :: t, n, g, hn => by
    have g1 := g.1
    have h := rm_le (p := p) g1 hn
    have ih := wf_flat (n := n - rmR p n) g.2.2.2 (by omega)
    show flR (wfP p n ++ wfR t (n - rmR p n)) = (flP p ++ flR t).drop n.toNat
    rw [flR_app, ih, List.drop_append]
    have lp : (flP p).length = (p.2 - p.1 + 1).toNat := posL_len _ _
    rw [lp]
    by_cases c : p.1 + rmR p n ≤ p.2
    · have e : rmR p n = n := h.2.2.2 (by omega)
      have e1 : wfP p n = [(p.1 + rmR p n, p.2)] := if_pos c
      rw [e1, e, show n - n = 0 by omega, show n.toNat - (p.2 - p.1 + 1).toNat = 0 by omega]
      congr 1
      show posL (p.1 + n) (p.2 - (p.1 + n) + 1).toNat ++ [] = (posL p.1 (p.2 - p.1 + 1).toNat).drop n.toNat
      rw [List.append_nil, posL_drop _ _ _ (by omega), show (n.toNat : Int) = n by omega, show (p.2 - (p.1 + n) + 1).toNat = (p.2 - p.1 + 1).toNat - n.toNat by omega]
    · have e1 : wfP p n = [] := if_neg c
      rw [e1, show (n - rmR p n).toNat = n.toNat - (p.2 - p.1 + 1).toNat by omega]
      congr 1
      show [] = (posL p.1 (p.2 - p.1 + 1).toNat).drop n.toNat
      rw [List.drop_of_length_le (by rw [posL_len]; omega)]
theorem wf_good {b : Int} : ∀ {R : List Rg} {n : Int}, Gd R b → 0 ≤ n → Gd (wfR R n) b
  | [], _, _, _ => trivial
  | p :: t, n, g, hn => by
    have g1 := g.1
    have h := rm_le (p := p) g1 hn
    show Gd (wfP p n ++ wfR t (n - rmR p n)) b
    by_cases c : p.1 + rmR p n ≤ p.2
    · have e : rmR p n = n := h.2.2.2 (by omega)
      have e1 : wfP p n = [(p.1 + rmR p n, p.2)] := if_pos c
      rw [e1, show n - rmR p n = 0 by omega, wf_zero g.2.2.2]
      exact ⟨c, g.2.1, g.2.2.1, g.2.2.2⟩
    · have e1 : wfP p n = [] := if_neg c
      rw [e1]
      exact wf_good g.2.2.2 (by omega)
theorem wf_lastlt {b : Int} {R : List Rg} {n : Int} (g : Gd R b) (hn : 0 ≤ n) : ∀ l, (wfR R n).getLast? = some l → l.2 < b := fun l h => Gd.last (wf_good g hn) l h
/-! ### ranges of positions are the ranges -/
theorem rg_more : ∀ (k : Nat) (F : List Rg) (a q : Int), (posL (q + 1) k).foldl (rgS 1) (F ++ [(a, q)]) = F ++ [(a, q + (k : Int))]
  | 0, F, a, q => by
    rw [show q + ((0 : Nat) : Int) = q by omega]
    rfl
  | k + 1, F, a, q => by
    show (posL (q + 1 + 1) k).foldl (rgS 1) (rgS 1 (F ++ [(a, q)]) (q + 1)) = _
    have e : rgS 1 (F ++ [(a, q)]) (q + 1) = F ++ [(a, q + 1)] := by
      unfold rgS
      rw [List.getLast?_concat]
      show (if q = (q + 1) * 1 - 1 then (F ++ [(a, q)]).dropLast ++ [(a, (q + 1) * 1 + 1 - 1)] else _) = _
      rw [if_pos (by omega), List.dropLast_concat, Int.mul_one, show q + 1 + 1 - 1 = q + 1 by omega]
    rw [e, rg_more k F a (q + 1), show q + 1 + (k : Int) = q + ((k + 1 : Nat) : Int) by omega]
theorem rg_flat {b : Int} : ∀ (R : List Rg) (F : List Rg), Gd R b → (∀ l p, F.getLast? = some l → R.head? = some p → l.2 + 1 < p.1) → (flR R).foldl (rgS 1) F = F ++ R
  | [], F, _, _ => by
    rw [List.append_nil]
    rfl
  | p :: t, F, g, h => by
    have g1 := g.1
    obtain ⟨k, hk⟩ : ∃ k : Nat, (p.2 - p.1 + 1).toNat = k + 1 := ⟨(p.2 - p.1).toNat, by omega⟩
    have e0 : flP p = p.1 :: posL (p.1 + 1) k := by
      unfold flP
      rw [hk]
      rfl
    rw [flR_cons, List.foldl_append, e0]
    show (flR t).foldl (rgS 1) ((posL (p.1 + 1) k).foldl (rgS 1) (rgS 1 F p.1)) = F ++ p :: t
    have e1 : rgS 1 F p.1 = F ++ [(p.1, p.1)] := by
      unfold rgS
      cases e : F.getLast? with
      | none =>
        show F ++ [(p.1 * 1, p.1 * 1 + 1 - 1)] = _
        rw [Int.mul_one, show p.1 + 1 - 1 = p.1 by omega]
      | some l =>
        have := h l p e rfl
        show (if l.2 = p.1 * 1 - 1 then _ else F ++ [(p.1 * 1, p.1 * 1 + 1 - 1)]) = _
        rw [if_neg (by omega), Int.mul_one, show p.1 + 1 - 1 = p.1 by omega]
    rw [e1, rg_more, show p.1 + (k : Int) = p.2 by omega]
    have ep : (p.1, p.2) = p := rfl
    rw [ep, rg_flat t (F ++ [p]) g.2.2.2 (fun l q hl hq => by
      rw [List.getLast?_concat] at hl
      have e : p = l := Option.some.inj hl
      rw [← e]
      exact g.2.2.1 q hq), List.append_assoc]
    rfl
/-! ### positions that wait, run by run -/
def psW (ws : List Run) : List Int := ws.map (·.2)
theorem pl_same : ∀ (c : Nat) (ws : List Run) (n : Nat) (k : Str), (∀ r ∈ ws, r.1 = k) → psW (plA ws n (List.replicate c k)) = psW ws ++ posL (n : Int) c
  | 0, ws, n, k, _ => by
    show psW ws = psW ws ++ []
    rw [List.append_nil]
  | c + 1, ws, n, k, h => by
    have e : plS ws k n = ws ++ [(k, (n : Int))] := by
      cases ws with
      | nil => rfl
      | cons r t => exact if_pos (h r (List.mem_cons_self ..))
    show psW (plA (plS ws k n) (n + 1) (List.replicate c k)) = psW ws ++ ((n : Int) :: posL ((n : Int) + 1) c)
    rw [e, pl_same c _ (n + 1) k (fun r hr => by
      rcases List.mem_append.mp hr with z | z
      · exact h r z
      · rw [List.mem_singleton.mp z])]
    unfold psW
    rw [List.map_append, List.append_assoc]
    rfl
theorem pl_other : ∀ (c : Nat) (ws : List Run) (n : Nat) (k : Str), (∀ r ∈ ws, r.1 ≠ k) → psW (plA ws n (List.replicate c k)) = (psW ws).drop c ++ posL ((n : Int) + (ws.length : Int)) (c - ws.length)
  | 0, ws, n, k, _ => by
    show psW ws = (psW ws).drop 0 ++ posL _ (0 - ws.length)
    rw [Nat.zero_sub]
    show psW ws = psW ws ++ []
    rw [List.append_nil]
  | c + 1, [], n, k, _ => by
    have := pl_same (c + 1) [] n k (fun r h => by cases h)
    rw [this]
    show [] ++ posL (n : Int) (c + 1) = ([] : List Int).drop (c + 1) ++ posL ((n : Int) + 0) (c + 1 - 0)
    rw [List.drop_nil, Int.add_zero]
    rfl
  | c + 1, r :: t, n, k, h => by
    have e : plS (r :: t) k n = t := if_neg (h r (List.mem_cons_self ..))
    show psW (plA (plS (r :: t) k n) (n + 1) (List.replicate c k)) = (psW t).drop c ++ posL ((n : Int) + ((r :: t).length : Int)) (c + 1 - (r :: t).length)
    rw [e, pl_other c t (n + 1) k (fun x hx => h x (List.mem_cons_of_mem _ hx)), List.length_cons, show ((n + 1 : Nat) : Int) + (t.length : Int) = (n : Int) + ((t.length + 1 : Nat) : Int) by omega, show c + 1 - (t.length + 1) = c - t.length by omega]
end UP

set_option Elab.async false
set_option linter.all false
set_option maxRecDepth 100000
set_option maxHeartbeats 4000000
namespace UP
open PySem PySem.Spec PyProof.Rows L2
theorem plA_app : ∀ (l m : List Str) (ws : List Run) (n : Nat), plA ws n (l ++ m) = plA (plA ws n l) (n + l.length) m
  | [], m, ws, n => rfl
  | k :: t, m, ws, n => by
    show plA (plS ws k n) (n + 1) (t ++ m) = plA (plA (plS ws k n) (n + 1) t) (n + (k :: t).length) m
    rw [plA_app t m, List.length_cons, show n + 1 + t.length = n + (t.length + 1) by omega]
theorem uni_plA : ∀ (l : List Str) (ws : List Run) (n : Nat), Uni ws → Uni (plA ws n l)
  | [], _, _, h => h
  | k :: t, ws, n, h => uni_plA t _ _ (uni_plS h)
theorem told_len {ws : List Run} : numR (toldR ws) = (ws.length : Int) := by
  cases ws with
  | nil => rfl
  | cons r t => rfl
/-- one run -/
theorem one_run {ws : List Run} {R : List Rg} {n : Nat} {r : Run} (u : Uni ws) (fl : flR R = psW ws) (g : Gd R (n : Int)) (c1 : 1 ≤ r.2) (bd : ∀ l, R.getLast? = some l → l.2 = (n : Int) - 1 → ∀ x, toldR ws = some x → x.1 ≠ r.1) :
    flR (wfR R (leavR (toldR ws) r.1 r.2) ++ adP (toldR ws) (n : Int) r) = psW (plA ws n (List.replicate r.2.toNat r.1)) ∧ Gd (wfR R (leavR (toldR ws) r.1 r.2) ++ adP (toldR ws) (n : Int) r) ((n : Int) + r.2) ∧
    ∀ l, (wfR R (leavR (toldR ws) r.1 r.2) ++ adP (toldR ws) (n : Int) r).getLast? = some l → l.2 = (n : Int) + r.2 - 1 → ∀ x, toldR (plA ws n (List.replicate r.2.toNat r.1)) = some x → x.1 = r.1 := by
  obtain ⟨c, hc⟩ : ∃ c : Nat, r.2.toNat = c + 1 := ⟨r.2.toNat - 1, by omega⟩
  have er : ((c : Int) + 1) = r.2 := by omega
  have nn : PosO (toldR ws) := by
    intro x hx
    cases ws with
    | nil => cases hx
    | cons y t =>
      cases hx
      show 1 ≤ (((y :: t).length : Nat) : Int)
      rw [List.length_cons]
      omega
  have told' : toldR (plA ws n (List.replicate r.2.toNat r.1)) = stepR (toldR ws) r.1 r.2 := by
    rw [told_plA _ _ _ u, hc, it_step c _ _ nn, er]
  cases ws with
  | nil =>
    -- nobody waits
    have eR : R = [] := by
      cases R with
      | nil => rfl
      | cons p t =>
        have g1 := g.1
        have : flR (p :: t) = [] := fl
        rw [flR_cons] at this
        have l0 := congrArg List.length this
        rw [List.length_append, show (flP p).length = (p.2 - p.1 + 1).toNat from posL_len _ _] at l0
        have l0 : (p.2 - p.1 + 1).toNat + (flR t).length = 0 := l0
        omega
    subst eR
    have lv : leavR (toldR []) r.1 r.2 = 0 := rfl
    have ad : adP (toldR []) (n : Int) r = [((n : Int) + 0, (n : Int) + r.2 - 1)] := if_pos (by rw [lv]; omega)
    rw [lv, ad]
    refine ⟨?_, ⟨by show (n : Int) + 0 ≤ (n : Int) + r.2 - 1; omega, by show (n : Int) + r.2 - 1 < (n : Int) + r.2; omega, (fun x h => by cases h), trivial⟩, fun l _ _ x hx => ?_⟩
    · rw [pl_same r.2.toNat [] n r.1 (fun r h => by cases h)]
      show posL ((n : Int) + 0) ((n : Int) + r.2 - 1 - ((n : Int) + 0) + 1).toNat ++ [] = [] ++ posL (n : Int) r.2.toNat
      rw [List.append_nil, List.nil_append, Int.add_zero, show (n : Int) + r.2 - 1 - (n : Int) + 1 = r.2 by omega]
    · rw [told'] at hx
      cases hx
      rfl
  | cons y t =>
    by_cases e : y.1 = r.1
    · -- the same kind
      have all : ∀ x ∈ y :: t, x.1 = r.1 := fun x hx => (u x hx y (List.mem_cons_self ..)).trans e
      have lv : leavR (toldR (y :: t)) r.1 r.2 = 0 := if_pos e
      have ad : adP (toldR (y :: t)) (n : Int) r = [((n : Int) + 0, (n : Int) + r.2 - 1)] := by
        unfold adP
        rw [lv, if_pos (by omega)]
      rw [lv, ad, wf_zero g]
      refine ⟨?_, ?_, fun l _ _ x hx => ?_⟩
      · rw [flR_app, fl, pl_same r.2.toNat _ n r.1 all]
        congr 1
        show posL ((n : Int) + 0) ((n : Int) + r.2 - 1 - ((n : Int) + 0) + 1).toNat ++ [] = _
        rw [List.append_nil, Int.add_zero, show (n : Int) + r.2 - 1 - (n : Int) + 1 = r.2 by omega]
      · refine Gd.snoc (Gd.mono (by omega) g) (by show (n : Int) + 0 ≤ (n : Int) + r.2 - 1; omega) (by show (n : Int) + r.2 - 1 < (n : Int) + r.2; omega) fun l hl => ?_
        have h1 := Gd.last g l hl
        show l.2 + 1 < (n : Int) + 0
        by_cases z : l.2 = (n : Int) - 1
        · exact absurd e (bd l hl z (y.1, ((y :: t).length : Int)) rfl)
        · omega
      · rw [told', show stepR (toldR (y :: t)) r.1 r.2 = some (r.1, _ + r.2) from step_same e] at hx
        cases hx
        rfl
    · -- another kind
      have all : ∀ x ∈ y :: t, x.1 ≠ r.1 := fun x hx z => e ((u y (List.mem_cons_self ..) x hx).trans z)
      have lv : leavR (toldR (y :: t)) r.1 r.2 = if r.2 < ((y :: t).length : Int) then r.2 else ((y :: t).length : Int) := if_neg e
      have lfl : (flR R).length = (y :: t).length := by
        rw [fl]
        exact List.length_map _
      by_cases q : r.2 ≤ ((y :: t).length : Int)
      · have lv1 : leavR (toldR (y :: t)) r.1 r.2 = r.2 := by
          rw [lv]
          split <;> omega
        have ad : adP (toldR (y :: t)) (n : Int) r = [] := if_neg (by rw [lv1]; omega)
        rw [lv1, ad, List.append_nil]
        refine ⟨?_, Gd.mono (by omega) (wf_good g (by omega)), fun l hl hz => ?_⟩
        · rw [wf_flat g (by omega), fl, pl_other r.2.toNat _ n r.1 all, show r.2.toNat - (y :: t).length = 0 by omega]
          show _ = _ ++ []
          rw [List.append_nil]
        · have := wf_lastlt g (show 0 ≤ r.2 by omega) l hl
          omega
      · have lv1 : leavR (toldR (y :: t)) r.1 r.2 = ((y :: t).length : Int) := by
          rw [lv, if_neg (by omega)]
        have ad : adP (toldR (y :: t)) (n : Int) r = [((n : Int) + ((y :: t).length : Int), (n : Int) + r.2 - 1)] := by
          unfold adP
          rw [lv1, if_pos (by omega)]
        have fl0 : flR (wfR R ((y :: t).length : Int)) = [] := by
          rw [wf_flat g (by omega), Int.toNat_natCast, List.drop_of_length_le (by omega)]
        have w0 : wfR R ((y :: t).length : Int) = [] := by
          cases hw : wfR R ((y :: t).length : Int) with
          | nil => rfl
          | cons p s =>
            have gg := wf_good g (show 0 ≤ ((y :: t).length : Int) by omega)
            rw [hw] at gg fl0
            have g1 := gg.1
            rw [flR_cons] at fl0
            have l0 := congrArg List.length fl0
            rw [List.length_append, show (flP p).length = (p.2 - p.1 + 1).toNat from posL_len _ _] at l0
            have l0 : (p.2 - p.1 + 1).toNat + (flR s).length = 0 := l0
            omega
        rw [lv1, ad, w0]
        refine ⟨?_, ⟨by show (n : Int) + ((y :: t).length : Int) ≤ (n : Int) + r.2 - 1; omega, by show (n : Int) + r.2 - 1 < (n : Int) + r.2; omega, (fun x h => by cases h), trivial⟩, fun l _ _ x hx => ?_⟩
        · rw [pl_other r.2.toNat _ n r.1 all, List.drop_of_length_le (by unfold psW; rw [List.length_map]; omega)]
          show posL ((n : Int) + ((y :: t).length : Int)) ((n : Int) + r.2 - 1 - ((n : Int) + ((y :: t).length : Int)) + 1).toNat ++ [] = [] ++ _
          rw [List.append_nil, List.nil_append, show ((n : Int) + r.2 - 1 - ((n : Int) + ((y :: t).length : Int)) + 1).toNat = r.2.toNat - (y :: t).length by omega]
        · rw [told', show stepR (toldR (y :: t)) r.1 r.2 = _ from step_other (r := (y.1, ((y :: t).length : Int))) e] at hx
          have h0 : ¬ (0 : Int) < ((y :: t).length : Int) - r.2 := by omega
          have h1 : ¬ ((y :: t).length : Int) - r.2 = 0 := by omega
          have hx : (if (0 : Int) < ((y :: t).length : Int) - r.2 then some (y.1, ((y :: t).length : Int) - r.2) else if ((y :: t).length : Int) - r.2 = 0 then none else some (r.1, -(((y :: t).length : Int) - r.2))) = some x := hx
          rw [if_neg h0, if_neg h1] at hx
          cases hx
          rfl
theorem all_runs : ∀ (rs : List Run) (ws : List Run) (R : List Rg) (n : Nat), Uni ws → flR R = psW ws → Gd R (n : Int) → (∀ r ∈ rs, 1 ≤ r.2) → Alt rs → (∀ l, R.getLast? = some l → l.2 = (n : Int) - 1 → ∀ x r, toldR ws = some x → rs.head? = some r → x.1 ≠ r.1) →
    flR (waR rs (toldR ws) (n : Int) R) = psW (plA ws n (itR rs)) ∧ ∃ b, Gd (waR rs (toldR ws) (n : Int) R) b
  | [], ws, R, n, _, fl, g, _, _, _ => ⟨fl, _, g⟩
  | r :: t, ws, R, n, u, fl, g, k, alt, bd => by
    have c1 := k r (List.mem_cons_self ..)
    obtain ⟨h1, h2, h3⟩ := one_run (r := r) u fl g c1 fun l hl hz x hx => bd l hl hz x r hx rfl
    have e : itR (r :: t) = List.replicate r.2.toNat r.1 ++ itR t := rfl
    have cn : ((n + r.2.toNat : Nat) : Int) = (n : Int) + r.2 := by omega
    have told' : toldR (plA ws n (List.replicate r.2.toNat r.1)) = stepR (toldR ws) r.1 r.2 := by
      have nn : PosO (toldR ws) := by
        intro x hx
        cases ws with
        | nil => cases hx
        | cons y t =>
          cases hx
          show 1 ≤ (((y :: t).length : Nat) : Int)
          rw [List.length_cons]
          omega
      obtain ⟨c, hc⟩ : ∃ c : Nat, r.2.toNat = c + 1 := ⟨r.2.toNat - 1, by omega⟩
      rw [told_plA _ _ _ u, hc, it_step c _ _ nn, show (c : Int) + 1 = r.2 by omega]
    have ih := all_runs t (plA ws n (List.replicate r.2.toNat r.1)) _ (n + r.2.toNat) (uni_plA _ _ _ u) h1 (by rw [cn]; exact h2) (fun x hx => k x (List.mem_cons_of_mem _ hx)) (fun i x y hx hy => alt (i + 1) x y hx hy) (fun l hl hz x r' hx hr' => by
      have ex := h3 l hl (by omega) x hx
      rw [ex]
      refine alt 0 r r' rfl ?_
      cases t with
      | nil => cases hr'
      | cons y s => exact hr')
    rw [cn, told'] at ih
    rw [e, plA_app, List.length_replicate]
    exact ih
/-! ### the parts up to a moment -/
theorem cut_none {e : Int} : ∀ (rs : List Run) (b : Int), 0 ≤ b → e ≤ b → (∀ r ∈ rs, 1 ≤ r.2) → cutR 0 e b rs = []
  | [], _, _, _, _ => rfl
  | r :: t, b, h0, h, k => by
    have c1 := k r (List.mem_cons_self ..)
    have hs : ¬ 0 < sizeR b 0 e r.2 := by
      unfold sizeR
      split <;> split <;> omega
    show pieceR b 0 e r ++ cutR 0 e (b + r.2) t = []
    rw [show pieceR b 0 e r = [] from if_neg hs, cut_none t (b + r.2) (by omega) (by omega) fun x hx => k x (List.mem_cons_of_mem _ hx)]
    rfl
theorem cut_kinds {e : Int} : ∀ (rs : List Run) (b : Int), 0 ≤ b → (∀ r ∈ rs, 1 ≤ r.2) → ∃ n, (cutR 0 e b rs).map (·.1) = (rs.map (·.1)).take n
  | [], _, _, _ => ⟨0, rfl⟩
  | r :: t, b, h0, k => by
    by_cases h : e ≤ b
    · exact ⟨0, by rw [cut_none (r :: t) b h0 h k]; rfl⟩
    · have c1 := k r (List.mem_cons_self ..)
      obtain ⟨n, hn⟩ := cut_kinds t (b + r.2) (by omega) fun x hx => k x (List.mem_cons_of_mem _ hx)
      have hs : 0 < sizeR b 0 e r.2 := by
        unfold sizeR
        split <;> split <;> omega
      refine ⟨n + 1, ?_⟩
      show (pieceR b 0 e r ++ cutR 0 e (b + r.2) t).map (·.1) = r.1 :: (t.map (·.1)).take n
      rw [show pieceR b 0 e r = [(r.1, sizeR b 0 e r.2)] from if_pos hs, List.map_append, hn]
      rfl
theorem alt_take {rs hs : List Run} {n : Nat} (h : hs.map (·.1) = (rs.map (·.1)).take n) (a : Alt rs) : Alt hs := by
  intro i x y hx hy
  have g : ∀ (j : Nat) (z : Run), hs[j]? = some z → ∃ w, rs[j]? = some w ∧ w.1 = z.1 := by
    intro j z hz
    have := congrArg (fun l : List Str => l[j]?) h
    simp only [List.getElem?_map, hz, List.getElem?_take] at this
    split at this
    · cases e : rs[j]? with
      | none => rw [e] at this; cases this
      | some w =>
        rw [e] at this
        exact ⟨w, rfl, (Option.some.inj this).symm⟩
    · cases this
  obtain ⟨x', h1, e1⟩ := g i x hx
  obtain ⟨y', h2, e2⟩ := g (i + 1) y hy
  rw [← e1, ← e2]
  exact a i x' y' h1 h2
/-- the ranges at a multiplied moment -/
theorem whole_wa {rs : List Run} {t : Int} {m : Nat} (ht : 0 < t) (k : ∀ r ∈ rs, 1 ≤ r.2) (a : Alt rs) : waR (cutR 0 ((m : Int) * t) 0 (scR t rs)) none 0 [] = rgR t (psW (plA [] 0 ((itR rs).take m))) := by
  have ec := cut_sc (s := 0) (e := (m : Int)) ht rs 0
  rw [Int.zero_mul] at ec
  have es := waR_sc ht (cutR 0 (m : Int) 0 rs) none 0 []
  rw [Int.zero_mul] at es
  obtain ⟨n, hn⟩ := cut_kinds (e := (m : Int)) rs 0 (Int.le_refl _) k
  obtain ⟨h1, b, h2⟩ := all_runs (cutR 0 (m : Int) 0 rs) [] [] 0 (fun x hx => by cases hx) rfl trivial cutR_pos (alt_take hn a) (fun l hl => by cases hl)
  have h1 : flR (waR (cutR 0 (m : Int) 0 rs) none 0 []) = psW (plA [] 0 (itR (cutR 0 (m : Int) 0 rs))) := h1
  have h2 : Gd (waR (cutR 0 (m : Int) 0 rs) none 0 []) b := h2
  rw [cut_items _ _ _ (Int.le_refl _) k, Int.sub_zero, Int.toNat_natCast] at h1
  have rf := rg_flat _ [] h2 (fun l p hl => by cases hl)
  rw [h1, List.nil_append] at rf
  rw [ec, rgR_sc ht]
  unfold rgR
  rw [rf]
  exact es
end UP

set_option Elab.async false
set_option linter.all false
set_option maxRecDepth 100000
set_option maxHeartbeats 4000000
namespace UP
open PySem PySem.Spec PyProof.Rows L2
/-! ### lists of ranges -/
def Rngs (H : Hp) (a : Addr) (R : List Rg) : Prop := ∃ xs, H a = some (.lst xs) ∧ Paired (PV H) xs R
theorem pvs_same {H H' : Hp} {xs : List V} {R : List Rg} (s : Same H H') (h : Paired (PV H) xs R) : Paired (PV H') xs R := Paired.imp (fun _ _ => PV.same s) h
theorem pvs_grow {H : Hp} {D : Addr} {acc acc' xs : List V} {R : List Rg} (hD : H D = some (.lst acc)) (h : Paired (PV H) xs R) : Paired (PV (upd H D (.lst acc'))) xs R := Paired.imp (fun _ _ => PV.grow hD) h
theorem Rngs.same {H H' : Hp} {a : Addr} {R : List Rg} (s : Same H H') (h : Rngs H a R) : Rngs H' a R := by
  obtain ⟨xs, hx, hp⟩ := h
  exact ⟨xs, s _ _ hx, pvs_same s hp⟩
theorem wfP_len (p : Rg) (n : Int) : (wfP p n).length ≤ 1 := by
  unfold wfP
  split <;> simp
theorem wfR_len : ∀ (R : List Rg) (n : Int), (wfR R n).length ≤ R.length
  | [], _ => Nat.le_refl _
  | p :: t, n => by
    have h1 := wfP_len p n
    have h2 := wfR_len t (n - rmR p n)
    show (wfP p n ++ wfR t (n - rmR p n)).length ≤ _
    rw [List.length_append, List.length_cons]
    omega
theorem adP_len (st : Option Run) (b : Int) (r : Run) : (adP st b r).length ≤ 1 := by
  unfold adP
  split <;> simp
theorem waR_len : ∀ (l : List Run) (st : Option Run) (b : Int) (R : List Rg), (waR l st b R).length ≤ R.length + l.length
  | [], _, _, _ => Nat.le_refl _
  | r :: t, st, b, R => by
    have h1 := waR_len t (stepR st r.1 r.2) (b + r.2) (wfR R (leavR st r.1 r.2) ++ adP st b r)
    have h2 := wfR_len R (leavR st r.1 r.2)
    have h3 := adP_len st b r
    rw [List.length_append] at h1
    show (waR t (stepR st r.1 r.2) (b + r.2) (wfR R (leavR st r.1 r.2) ++ adP st b r)).length ≤ _
    rw [List.length_cons]
    omega
theorem paired_snocR {α β : Type} {F : α → β → Prop} : ∀ {xs : List α} (l : List β) (y : β), Paired F xs (l ++ [y]) → ∃ xs0 x, xs = xs0 ++ [x] ∧ Paired F xs0 l ∧ F x y
  | _, [], y, h => by
    cases h with
    | cons h1 h2 =>
      cases h2
      exact ⟨[], _, rfl, .nil, h1⟩
  | _, z :: l, y, h => by
    cases h with
    | cons h1 h2 =>
      obtain ⟨xs0, x, e, h3, h4⟩ := paired_snocR l y h2
      exact ⟨_ :: xs0, x, by rw [e]; rfl, .cons h1 h3, h4⟩
theorem Gd.gap {b : Int} {p : Rg} : ∀ {R : List Rg}, Gd (R ++ [p]) b → ∀ l, R.getLast? = some l → l.2 + 1 < p.1
  | [], _, l, h => by cases h
  | [q], g, l, h => by
    have e : q = l := Option.some.inj h
    rw [← e]
    exact g.2.2.1 p rfl
  | q :: r :: t, g, l, h => by
    rw [List.getLast?_cons_cons] at h
    exact Gd.gap (R := r :: t) g.2.2.2 l h
/-- a new range never touches the last one -/
theorem no_touch {cs : List Run} (pos : ∀ r ∈ cs, 1 ≤ r.2) (alt : Alt cs) {i : Nat} {r : Run} (er : cs[i]? = some r) : leavR (stR (cs.take i) none) r.1 r.2 < r.2 → ∀ l, (wfR (waR (cs.take i) none 0 []) (leavR (stR (cs.take i) none) r.1 r.2)).getLast? = some l → l.2 + 1 ≠ lenR (cs.take i) + leavR (stR (cs.take i) none) r.1 r.2 := by
  intro lt l hl z
  obtain ⟨_, b, g⟩ := all_runs (cs.take (i + 1)) [] [] 0 (fun x hx => by cases hx) rfl trivial (fun x hx => pos x (List.mem_of_mem_take hx)) (alt_take (n := i + 1) List.map_take alt) (fun l hl => by cases hl)
  have g : Gd (waR (cs.take (i + 1)) none 0 []) b := g
  rw [take_snoc er, waR_snoc, Int.zero_add, show adP (stR (cs.take i) none) (lenR (cs.take i)) r = [_] from if_pos lt] at g
  have := Gd.gap g l hl
  have this : l.2 + 1 < lenR (cs.take i) + leavR (stR (cs.take i) none) r.1 r.2 := this
  omega
section
variable {P : Program} {w : World} {K : PySem.W.Frag} {mg : Str → Option Value} {base : Heap}
/-! without_first: slots 0:ranges 1:number 2:kept 3:first 4:last 5:removed -/
abbrev s_without_first : Stmt := topS 33
theorem sc_without_first : FnScope ["ranges", "number", "kept", "first", "last", "removed"] ["ranges", "number"] (defScope s_without_first) := ⟨rfl, rfl, rfl, by decide +kernel, rfl, by decide +kernel, by decide +kernel⟩
def sp_without_first : Sp := fun vs H Q _ => ∃ (a : Addr) (R : List Rg) (n : Int), vs = [.ref a, .int n] ∧ Rngs H a R ∧ R.length ≤ 100000 ∧ ∀ H' p, Same H H' → H p = none → Rngs H' p (wfR R n) → Q (.ref p) H'
theorem ok_without_first (D : Df K mg "without_first" s_without_first) (T : Tx mg) : Has P w K mg base 1 "without_first" ["ranges", "number"] sp_without_first := by
  refine has_of D sc_without_first (fun _ _ _ _ _ _ us hl => match us, hl with | [_, _], _ => rfl) (fun vs H Q E h => ?_) (fun f cdv A outer s₀ H vs Q E hr h => ?_)
  · obtain ⟨a, R, n, rfl, _⟩ := h
    rfl
  · obtain ⟨a, R, n, rfl, ⟨xs, hx, hp⟩, l4, q⟩ := h
    have lx : xs.length = R.length := Paired.len hp
    refine ⟨_, (pss_cons (ps_set (i := 2) sc_without_first.nd rfl (by first | exact Or.inl rfl | exact Or.inr rfl) (pe_lst pa_nil))
    (pss_cons (ps_for PassesOwn.never rfl (pi_list (pv 0)) (pg_tup rfl (pgs_cons (pg_name (i := 3) sc_without_first.nd rfl (by first | exact Or.inl rfl | exact Or.inr rfl)) (pgs_cons (pg_name (i := 4) sc_without_first.nd rfl (by first | exact Or.inl rfl | exact Or.inr rfl)) pgs_nil)))
      (pss_cons (ps_set (i := 5) sc_without_first.nd rfl (by first | exact Or.inl rfl | exact Or.inr rfl) (pe_callB (call_min2 rfl) (by rfl) T.n_min (by decide +kernel) (pa_cons (pv 1) (pa_cons (pe_op op_add (pe_op op_sub (pv 4) (pv 3)) pe_int) pa_nil))))
    (C8.pss_cut (ps_if (pt_cmpR op_le (pe_op op_add (pv 3) (pv 5)) (pv 4) (nomark _)) (pss_one (ps_expr (pe_bm PySem.F.plainAttrs_list PySem.F.slot_list_append PySem.F.type_list_append mt_append (pv 2) (pa_cons (pe_tup (pa_cons (pe_op op_add (pv 3) (pv 5)) (pa_cons (pv 4) pa_nil))) pa_nil)))) pss_nil)
    (pss_one (ps_aug (i := 1) sc_without_first.nd rfl (by first | exact Or.inl rfl | exact Or.inr rfl) (pv 5) ip_sub)))))
    (pss_one (ps_ret (pv 2))))), ?_⟩
    refine ⟨Nat.zero_le _, fun p np => ?_⟩
    refine ⟨_, rfl, a, rfl, ⟨xs, .of (same_upd np _ _ hx)⟩, for_list (K := K) (a := a) (xs := xs) (fun i σ H' => ∃ b y3 y4 y5, b = wfN (R.take i) n ∧ σ = [some (.ref a), some (.int b), some (.ref p), y3, y4, y5] ∧ Same H H' ∧ ∃ ys, H' p = some (.lst ys) ∧ Paired (PV H') ys (wfR (R.take i) n))
      ⟨n, none, none, none, rfl, rfl, same_upd np, [], upd_same, .nil⟩ (fun i σ H' _ hP => ?_) (fun i x σ H1 ex hP => ?_) (fun σ H1 hP => ?_)⟩
    · obtain ⟨_, _, _, _, _, _, sm, _⟩ := hP
      exact .of (sm _ _ hx)
    · obtain ⟨b, y3, y4, y5, rfl, rfl, sm, ys, hL, hy⟩ := hP
      obtain ⟨r, er, hr1⟩ := Paired.at hp ex
      have hi : i < xs.length := (List.getElem?_eq_some_iff.mp ex).1
      obtain ⟨t, rfl, ht⟩ := PV.same sm hr1
      have el : wfN (R.take (i + 1)) n = wfN (R.take i) n - rmR r (wfN (R.take i) n) := by rw [take_snoc er, wfN_snoc]
      have ec : wfR (R.take (i + 1)) n = wfR (R.take i) n ++ wfP r (wfN (R.take i) n) := by rw [take_snoc er, wfR_snoc]
      refine ⟨t, _, rfl, .of ht, rfl, _, _, rfl, _, _, rfl, rfl, ?_⟩
      refine ⟨_, rfl, _, rfl, _, rfl, _, _, rfl, rfl, _, _, rfl, rfl, _, _, rfl, ?_⟩
      refine ⟨fun σ' H' => σ' = [some (.ref a), some (.int (wfN (R.take i) n)), some (.ref p), some (.int r.1), some (.int r.2), some (.int (rmR r (wfN (R.take i) n)))] ∧ Same H H' ∧ ∃ ys, H' p = some (.lst ys) ∧ Paired (PV H') ys (wfR (R.take (i + 1)) n), ?_, fun σ' H5 hM => ?_⟩
      · refine ⟨_, rfl, _, rfl, _, _, rfl, rfl, _, rfl, _, _, rfl, rfl, _, rfl, ite2 (fun e => ?_) (fun e => ?_)⟩
        · have e : r.1 + rmR r (wfN (R.take i) n) ≤ r.2 := of_decide_eq_true e
          have epc : wfP r (wfN (R.take i) n) = [(r.1 + rmR r (wfN (R.take i) n), r.2)] := if_pos e
          refine ⟨_, rfl, .inl ⟨rfl, _, SqL.of hL⟩, _, rfl, _, rfl, _, _, rfl, rfl, _, rfl, (by show 2 ≤ sizeLine; decide), fun u nn => ⟨p, _, _, rfl, rfl, same_upd nn _ _ hL, ?_, ?_⟩⟩
          · have h1 := Paired.len hy
            have h2 := wfR_len (R.take i) n
            rw [List.length_take] at h2
            exact small (by omega)
          · refine ⟨rfl, same_grow np (sm.trans (same_upd nn)), _, upd_same, ?_⟩
            rw [ec, epc]
            exact Paired.app (pvs_grow (same_upd nn _ _ hL) (pvs_same (same_upd nn) hy)) (.cons (PV.grow (same_upd nn _ _ hL) ⟨_, rfl, upd_same⟩) .nil)
        · have e : ¬ r.1 + rmR r (wfN (R.take i) n) ≤ r.2 := fun z => e (decide_eq_true z)
          have epc : wfP r (wfN (R.take i) n) = [] := if_neg e
          refine ⟨rfl, sm, _, hL, ?_⟩
          rw [ec, epc, List.append_nil]
          exact hy
      · obtain ⟨rfl, s5, ys5, hL5, hy5⟩ := hM
        exact ⟨_, rfl, _, rfl, _, _, rfl, rfl, _, _, _, _, el.symm, rfl, s5, ys5, hL5, hy5⟩
    · obtain ⟨b, y3, y4, y5, rfl, rfl, sm, ys, hL, hy⟩ := hP
      rw [lx, List.take_length] at hy
      exact ⟨_, rfl, q H1 p sm np ⟨ys, hL, hy⟩⟩
def adQ (b c n : Int) : List Rg := if n < c then [(b + n, b + c - 1)] else []
/-! add_range: slots 0:ranges 1:first 2:last -/
abbrev s_add_range : Stmt := topS 32
theorem sc_add_range : FnScope ["ranges", "first", "last"] ["ranges", "first", "last"] (defScope s_add_range) := ⟨rfl, rfl, rfl, by decide +kernel, rfl, by decide +kernel, by decide +kernel⟩
def sp_add_range : Sp := fun vs H Q _ => ∃ (a : Addr) (R : List Rg) (f l : Int), vs = [.ref a, .int f, .int l] ∧ Rngs H a R ∧ R.length ≤ 100000 ∧ (∀ z, R.getLast? = some z → z.2 + 1 ≠ f) ∧ ∀ H', But a H H' → Rngs H' a (R ++ [(f, l)]) → Q .non H'
theorem ok_add_range (D : Df K mg "add_range" s_add_range) : Has P w K mg base 1 "add_range" ["ranges", "first", "last"] sp_add_range := by
  refine has_of D sc_add_range (fun _ _ _ _ _ _ us hl => match us, hl with | [_, _, _], _ => rfl) (fun vs H Q E h => ?_) (fun f cdv A outer s₀ H vs Q E hr h => ?_)
  · obtain ⟨a, R, x, l, rfl, _⟩ := h
    rfl
  · obtain ⟨a, R, x, l, rfl, ⟨xs, hx, hp⟩, l4, nt, q⟩ := h
    have lx : xs.length = R.length := Paired.len hp
    have app : ∀ (p : Addr), H p = none → Q .non (upd (upd H p (.tup [.int x, .int l])) a (.lst (xs ++ [.ref p]))) := by
      intro p np
      have hx1 := same_upd (o := .tup [.int x, .int l]) np _ _ hx
      exact q _ ((Same.but (same_upd np)).trans but_upd) ⟨_, upd_same, Paired.app (pvs_grow hx1 (pvs_same (same_upd np) hp)) (.cons (PV.grow hx1 ⟨_, rfl, upd_same⟩) .nil)⟩
    refine ⟨_, (pss_one (ps_if (PW.pt (pw_and (pt_truth (pv 0) (by intro _; rfl)) (pw_and1 (pt_cmpR op_eq (pe_op op_add (pe_ix ix_tup (pe_ix ix_list (pv 0) (pe_un un_neg pe_int) (fun _ _ => rfl)) pe_int (fun _ _ => rfl)) pe_int) (pv 1) (nomark _))))) (pss_one (ps_asg (pe_tup (pa_cons (pe_ix ix_tup (pe_ix ix_list (pv 0) (pe_un un_neg pe_int) (fun _ _ => rfl)) pe_int (fun _ _ => rfl)) (pa_cons (pv 2) pa_nil))) (pg_sub (pv 0) (pe_un un_neg pe_int) set_list))) (pss_one (ps_expr (pe_bm PySem.F.plainAttrs_list PySem.F.slot_list_append PySem.F.type_list_append mt_append (pv 0) (pa_cons (pe_tup (pa_cons (pv 1) (pa_cons (pv 2) pa_nil))) pa_nil)))))), ?_⟩
    rcases List.eq_nil_or_concat R with e0 | ⟨R0, y, e0⟩
    · subst e0
      cases hp
      refine ⟨_, rfl, false, .inl ⟨[], .of hx, rfl⟩, iteF ?_⟩
      exact ⟨_, rfl, .inl ⟨rfl, _, SqL.of hx⟩, _, rfl, _, rfl, (by show 2 ≤ sizeLine; decide), fun u nn => ⟨a, _, _, rfl, rfl, same_upd nn _ _ hx, small (by show 0 ≤ _; omega), app u nn⟩⟩
    · rw [List.concat_eq_append] at e0
      subst e0
      have nt := nt y List.getLast?_concat
      obtain ⟨ys0, yv, rfl, hy0, ⟨tl, rfl, htl⟩⟩ := paired_snocR R0 y hp
      have exl : atI (ys0 ++ [V.ref tl]) (-1) = some (.ref tl) := atI_last _ _
      have tr : (!(ys0 ++ [V.ref tl]).isEmpty) = true := by cases ys0 <;> rfl
      have lx2 : (ys0 ++ [V.ref tl]).length ≤ 100000 := by rw [lx]; exact l4
      refine ⟨_, rfl, true, .inl ⟨_, .of hx, tr.symm⟩, iteT ?_⟩
      refine ⟨_, rfl, 1, rfl, a, _, -1, _, rfl, rfl, .of hx, exl, tl, _, 1, _, rfl, rfl, .of htl, rfl, _, _, rfl, rfl, _, rfl, rfl, _, rfl, iteN (decide_eq_false fun z => nt (V.int.inj z)) ?_⟩
      exact ⟨_, rfl, .inl ⟨rfl, _, SqL.of hx⟩, _, rfl, _, rfl, (by show 2 ≤ sizeLine; decide), fun u nn => ⟨a, _, _, rfl, rfl, same_upd nn _ _ hx, small (by omega), app u nn⟩⟩
/-! ranges_after_run: slots 0:ranges 1:start 2:count 3:leaving 4:kept -/
abbrev s_ranges_after_run : Stmt := topS 34
theorem sc_ranges_after_run : FnScope ["ranges", "start", "count", "leaving", "kept"] ["ranges", "start", "count", "leaving"] (defScope s_ranges_after_run) := ⟨rfl, rfl, rfl, by decide +kernel, rfl, by decide +kernel, by decide +kernel⟩
def sp_ranges_after_run : Sp := fun vs H Q _ => ∃ (a : Addr) (R : List Rg) (b c n : Int), vs = [.ref a, .int b, .int c, .int n] ∧ Rngs H a R ∧ R.length ≤ 100000 ∧ (n < c → ∀ l, (wfR R n).getLast? = some l → l.2 + 1 ≠ b + n) ∧ ∀ H' p, Same H H' → H p = none → Rngs H' p (wfR R n ++ adQ b c n) → Q (.ref p) H'
theorem ok_ranges_after_run (D : Df K mg "ranges_after_run" s_ranges_after_run) (G_without_first : Has P w K mg base 1 "without_first" ["ranges", "number"] sp_without_first) (G_add_range : Has P w K mg base 1 "add_range" ["ranges", "first", "last"] sp_add_range) : Has P w K mg base 2 "ranges_after_run" ["ranges", "start", "count", "leaving"] sp_ranges_after_run := by
  refine has_of D sc_ranges_after_run (fun _ _ _ _ _ _ us hl => match us, hl with | [_, _, _, _], _ => rfl) (fun vs H Q E h => ?_) (fun f cdv A outer s₀ H vs Q E hr h => ?_)
  · obtain ⟨a, R, b, c, n, rfl, _⟩ := h
    rfl
  · obtain ⟨a, R, b, c, n, rfl, hR, l4, nt, q⟩ := h
    refine ⟨_, (pss_cons (ps_set (i := 4) sc_ranges_after_run.nd rfl (by first | exact Or.inl rfl | exact Or.inr rfl) (pe_callH G_without_first (hr.mono (by omega)) (by rfl) (pa_cons (pv 0) (pa_cons (pv 3) pa_nil))))
    (pss_cons (ps_if (pt_cmpR op_lt (pv 3) (pv 2) (nomark _)) (pss_one (ps_expr (pe_callH G_add_range (hr.mono (by omega)) (by rfl) (pa_cons (pv 4) (pa_cons (pe_op op_add (pv 1) (pv 3)) (pa_cons (pe_op op_sub (pe_op op_add (pv 1) (pv 2)) pe_int) pa_nil)))))) pss_nil)
    (pss_one (ps_ret (pv 4))))), ?_⟩
    refine ⟨_, rfl, _, rfl, a, R, n, rfl, hR, l4, fun H5 p5 s5 n5 h5 => ?_⟩
    have lw := wfR_len R n
    refine ⟨_, rfl, _, rfl, _, _, rfl, rfl, _, rfl, ite2 (fun e => ?_) (fun e => ?_)⟩
    · have e : n < c := of_decide_eq_true e
      have epc : adQ b c n = [(b + n, b + c - 1)] := if_pos e
      refine ⟨_, rfl, _, rfl, _, rfl, _, _, rfl, rfl, _, rfl, _, rfl, _, _, rfl, rfl, _, _, rfl, rfl, p5, _, _, _, rfl, h5, by omega, nt e, fun H6 b6 h6 => ?_⟩
      refine ⟨_, rfl, q _ p5 (fun x o hx => b6 _ _ (ne_of_none hx n5) (s5 _ _ hx)) n5 ?_⟩
      rw [epc]
      exact h6
    · have e : ¬ n < c := fun z => e (decide_eq_true z)
      have epc : adQ b c n = [] := if_neg e
      refine ⟨_, rfl, q _ p5 s5 n5 ?_⟩
      rw [epc, List.append_nil]
      exact h5
/-! waiting_at: slots 0:sequence 1:moment 2:runs 3:state 4:start 5:ranges 6:kind 7:count -/
abbrev s_waiting_at : Stmt := topS 37
theorem sc_waiting_at : FnScope ["sequence", "moment", "runs", "state", "start", "ranges", "kind", "count"] ["sequence", "moment"] (defScope s_waiting_at) := ⟨rfl, rfl, rfl, by decide +kernel, rfl, by decide +kernel, by decide +kernel⟩
def sp_waiting_at : Sp := fun vs H Q _ => ∃ (av : V) (rs : List Run) (m : Int), vs = [av, .int m] ∧ RunsG H av rs ∧ SeqOk rs ∧ 0 ≤ m ∧ m ≤ lenR rs ∧ ∀ H' p, Same H H' → H p = none → Rngs H' p (waR (cutR 0 m 0 rs) none 0 []) → Q (.ref p) H'
theorem ok_waiting_at (D : Df K mg "waiting_at" s_waiting_at) (G_checked_runs : Has P w K mg base 5 "checked_runs" ["sequence"] sp_checked_runs) (G_check_moment : Has P w K mg base 3 "check_moment" ["runs", "moment"] sp_check_moment) (G_cut : Has P w K mg base 1 "cut" ["runs", "start", "length"] sp_cut)
    (G_leaving_number : Has P w K mg base 1 "leaving_number" ["state", "kind", "count"] sp_leaving_number) (G_ranges_after_run : Has P w K mg base 2 "ranges_after_run" ["ranges", "start", "count", "leaving"] sp_ranges_after_run) (G_state_after_run : Has P w K mg base 2 "state_after_run" ["state", "kind", "count"] sp_state_after_run) :
    Has P w K mg base 6 "waiting_at" ["sequence", "moment"] sp_waiting_at := by
  refine has_of D sc_waiting_at (fun _ _ _ _ _ _ us hl => match us, hl with | [_, _], _ => rfl) (fun vs H Q E h => ?_) (fun f cdv A outer s₀ H vs Q E hr h => ?_)
  · obtain ⟨a, R, n, rfl, _⟩ := h
    rfl
  · obtain ⟨av, rs, m, rfl, hR, ok, m0, m1, q⟩ := h
    have l4 : rs.length ≤ 1000 := by have := ok.1; omega
    refine ⟨_, (pss_cons (ps_set (i := 2) sc_waiting_at.nd rfl (by first | exact Or.inl rfl | exact Or.inr rfl) (pe_callH G_checked_runs (hr.mono (by omega)) (by rfl) (pa_cons (pv 0) pa_nil)))
    (pss_cons (ps_expr (pe_callH G_check_moment (hr.mono (by omega)) (by rfl) (pa_cons (pv 2) (pa_cons (pv 1) pa_nil))))
    (pss_cons (ps_set (i := 3) sc_waiting_at.nd rfl (by first | exact Or.inl rfl | exact Or.inr rfl) pe_non)
    (pss_cons (ps_set (i := 4) sc_waiting_at.nd rfl (by first | exact Or.inl rfl | exact Or.inr rfl) pe_int)
    (pss_cons (ps_set (i := 5) sc_waiting_at.nd rfl (by first | exact Or.inl rfl | exact Or.inr rfl) (pe_lst pa_nil))
    (pss_cons (ps_for PassesOwn.never rfl (pi_list (pe_callH G_cut (hr.mono (by omega)) (by rfl) (pa_cons (pv 2) (pa_cons pe_int (pa_cons (pv 1) pa_nil))))) (pg_tup rfl (pgs_cons (pg_name (i := 6) sc_waiting_at.nd rfl (by first | exact Or.inl rfl | exact Or.inr rfl)) (pgs_cons (pg_name (i := 7) sc_waiting_at.nd rfl (by first | exact Or.inl rfl | exact Or.inr rfl)) pgs_nil)))
      (pss_cons (ps_set (i := 5) sc_waiting_at.nd rfl (by first | exact Or.inl rfl | exact Or.inr rfl) (pe_callH G_ranges_after_run (hr.mono (by omega)) (by rfl) (pa_cons (pv 5) (pa_cons (pv 4) (pa_cons (pv 7) (pa_cons (pe_callH G_leaving_number (hr.mono (by omega)) (by rfl) (pa_cons (pv 3) (pa_cons (pv 6) (pa_cons (pv 7) pa_nil)))) pa_nil))))))
    (pss_cons (ps_set (i := 3) sc_waiting_at.nd rfl (by first | exact Or.inl rfl | exact Or.inr rfl) (pe_callH G_state_after_run (hr.mono (by omega)) (by rfl) (pa_cons (pv 3) (pa_cons (pv 6) (pa_cons (pv 7) pa_nil)))))
    (pss_one (ps_aug (i := 4) sc_waiting_at.nd rfl (by first | exact Or.inl rfl | exact Or.inr rfl) (pv 7) ip_add)))))
    (pss_one (ps_ret (pv 5))))))))), ?_⟩
    refine ⟨_, rfl, av, rs, rfl, hR, ok, fun H1 p s1 np hp => ?_⟩
    refine ⟨_, rfl, _, rfl, p, rs, m, rfl, hp, l4, m0, m1, fun H2 s2 => ?_⟩
    refine ⟨Nat.zero_le _, fun e ne => ?_⟩
    have se := same_upd (o := .lst []) ne
    refine ⟨_, rfl, _, rfl, p, rs, 0, m, rfl, (hp.same s2).same se, l4, fun H3 p3 s3 n3 h3 => ?_⟩
    rw [Int.zero_add] at h3
    have sA := s1.trans (s2.trans (se.trans s3))
    have he : H3 e = some (.lst []) := s3 _ _ upd_same
    have neH : H e = none := (s1.trans s2).free ne
    have lc := cutR_len 0 m rs 0
    have cp := cutR_pos (s := 0) (e := m) (l := rs) (b := 0)
    obtain ⟨nk, hnk⟩ := cut_kinds (e := m) rs 0 (Int.le_refl _) (fun r hr => (ok.2.1 r hr).2.1)
    have al := alt_take hnk ok.2.2
    clear hnk
    generalize cutR 0 m 0 rs = cs at h3 lc cp q al
    obtain ⟨xs, hx, hpr⟩ := h3
    have lx : xs.length = cs.length := Paired.len hpr
    refine ⟨p3, rfl, ⟨xs, .of hx⟩, for_list (K := K) (a := p3) (xs := xs) (fun i σ H' => ∃ v b a y6 y7, b = lenR (cs.take i) ∧ σ = [some av, some (.int m), some (.ref p), some v, some (.int b), some (.ref a), y6, y7] ∧ Same H3 H' ∧ H a = none ∧ StV H' v (stR (cs.take i) none) ∧ Rngs H' a (waR (cs.take i) none 0 []))
      ⟨.non, 0, e, none, none, rfl, rfl, Same.refl _, neH, rfl, [], he, .nil⟩ (fun i σ H' _ hP => ?_) (fun i x σ H4 ex hP => ?_) (fun σ H4 hP => ?_)⟩
    · obtain ⟨_, _, _, _, _, _, _, sm, _⟩ := hP
      exact .of (sm _ _ hx)
    · obtain ⟨v, b, a, y6, y7, rfl, rfl, sm, na, hv, hR4⟩ := hP
      obtain ⟨r, er, hr1⟩ := Paired.at hpr ex
      obtain ⟨t, rfl, ht⟩ := RunV.same sm hr1
      have hi : i < xs.length := (List.getElem?_eq_some_iff.mp ex).1
      have c1 : 1 ≤ r.2 := cp r (List.mem_of_getElem? er)
      have el : lenR (cs.take (i + 1)) = lenR (cs.take i) + r.2 := by rw [take_snoc er, lenR_snoc]
      have es : stR (cs.take (i + 1)) none = stepR (stR (cs.take i) none) r.1 r.2 := by rw [take_snoc er, stR_snoc]
      have ew : waR (cs.take (i + 1)) none 0 [] = wfR (waR (cs.take i) none 0 []) (leavR (stR (cs.take i) none) r.1 r.2) ++ adP (stR (cs.take i) none) (lenR (cs.take i)) r := by rw [take_snoc er, waR_snoc, Int.zero_add]
      have lw := waR_len (cs.take i) none 0 []
      rw [List.length_take, List.length_nil] at lw
      have nt := no_touch cp al er
      rw [el, es, ew]
      generalize lenR (cs.take i) = b at *
      generalize stR (cs.take i) none = st at *
      generalize waR (cs.take i) none 0 [] = R at *
      refine ⟨t, _, rfl, .of ht, rfl, _, _, rfl, _, _, rfl, rfl, ?_⟩
      refine ⟨_, rfl, _, rfl, _, rfl, _, rfl, _, rfl, _, rfl, v, st, r.1, r.2, rfl, hv, ?_⟩
      refine ⟨a, R, b, r.2, leavR st r.1 r.2, rfl, hR4, by omega, nt, fun H5 p5 s5 n5 h5 => ?_⟩
      have n3 : H3 p5 = none := sm.free n5
      refine ⟨_, rfl, _, rfl, _, rfl, v, st, r.1, r.2, rfl, hv.same s5, c1, fun H7 v7 s7 h7 => ?_⟩
      exact ⟨_, rfl, _, rfl, _, _, rfl, rfl, v7, _, p5, _, _, rfl, rfl, sm.trans (s5.trans s7), sA.free n3, h7, h5.same s7⟩
    · obtain ⟨v, b, a, y6, y7, rfl, rfl, sm, na, hv, hR4⟩ := hP
      rw [lx, List.take_length] at hR4
      exact ⟨_, rfl, q H4 a (sA.trans sm) na hR4⟩
end
end UP

set_option Elab.async false
set_option linter.all false
set_option maxRecDepth 100000
set_option maxHeartbeats 4000000
namespace UP
open PySem PySem.Spec PyProof.Rows L2
/-! ### blocks of pairs -/
theorem paired_snoc {α β : Type} {F : α → β → Prop} : ∀ {xs : List α} (l : List β) (y : β), Paired F xs (l ++ [y]) → ∃ xs0 x, xs = xs0 ++ [x] ∧ Paired F xs0 l ∧ F x y
  | _, [], y, h => by
    cases h with
    | cons h1 h2 =>
      cases h2
      exact ⟨[], _, rfl, .nil, h1⟩
  | _, z :: l, y, h => by
    cases h with
    | cons h1 h2 =>
      obtain ⟨xs0, x, e, h3, h4⟩ := paired_snoc l y h2
      exact ⟨_ :: xs0, x, by rw [e]; rfl, .cons h1 h3, h4⟩
theorem set_lastX {α : Type} : ∀ (l : List α) (x y : α), (l ++ [x]).set l.length y = l ++ [y]
  | [], _, _ => rfl
  | z :: l, x, y => congrArg (z :: ·) (set_lastX l x y)
theorem ixN_lastX {n : Nat} : ixN (n + 1) (-1) = some n := by
  unfold ixN
  simp
  omega
abbrev Blk := Int × Int × Int
def BV (H : Hp) (v : V) (b : Blk) : Prop := ∃ t, v = .ref t ∧ H t = some (.tup [.int b.1, .int b.2.1, .int b.2.2])
theorem BV.same {H H' : Hp} {v : V} {p : Blk} (s : Same H H') (h : BV H v p) : BV H' v p := by
  obtain ⟨t, e, h⟩ := h
  exact ⟨t, e, s _ _ h⟩
theorem BV.grow {H : Hp} {D : Addr} {acc acc' : List V} {v : V} {p : Blk} (hD : H D = some (.lst acc)) (h : BV H v p) : BV (upd H D (.lst acc')) v p := by
  obtain ⟨t, e, h⟩ := h
  refine ⟨t, e, ?_⟩
  rw [upd_ne (ne_of h hD (by intro q; cases q))]
  exact h
theorem BV.but {H H' : Hp} {D : Addr} {acc : List V} {v : V} {p : Blk} (hD : H D = some (.lst acc)) (s : But D H H') (h : BV H v p) : BV H' v p := by
  obtain ⟨t, e, h⟩ := h
  exact ⟨t, e, s _ _ (ne_of h hD (by intro q; cases q)) h⟩
def Blks (H : Hp) (a : Addr) (B : List Blk) : Prop := ∃ xs, H a = some (.lst xs) ∧ Paired (BV H) xs B
theorem bvs_same {H H' : Hp} {xs : List V} {R : List Blk} (s : Same H H') (h : Paired (BV H) xs R) : Paired (BV H') xs R := Paired.imp (fun _ _ => BV.same s) h
theorem bvs_grow {H : Hp} {D : Addr} {acc acc' xs : List V} {R : List Blk} (hD : H D = some (.lst acc)) (h : Paired (BV H) xs R) : Paired (BV (upd H D (.lst acc'))) xs R := Paired.imp (fun _ _ => BV.grow hD) h
theorem Blks.same {H H' : Hp} {a : Addr} {R : List Blk} (s : Same H H') (h : Blks H a R) : Blks H' a R := by
  obtain ⟨xs, hx, hp⟩ := h
  exact ⟨xs, s _ _ hx, bvs_same s hp⟩
def brP (p : Rg) (b n : Int) : List Blk := if 0 < rmR p n then [(p.1, b, rmR p n)] else []
def brR : List Rg → Int → Int → List Blk
  | [], _, _ => []
  | p :: t, b, n => brP p b n ++ brR t (b + rmR p n) (n - rmR p n)
theorem brR_snoc : ∀ (l : List Rg) (p : Rg) (b n : Int), brR (l ++ [p]) b n = brR l b n ++ brP p (b + (n - wfN l n)) (wfN l n)
  | [], p, b, n => by
    show brP p b n ++ [] = [] ++ brP p (b + (n - n)) n
    rw [List.append_nil, List.nil_append, show b + (n - n) = b by omega]
  | x :: t, p, b, n => by
    show brP x b n ++ brR (t ++ [p]) (b + rmR x n) (n - rmR x n) = (brP x b n ++ brR t (b + rmR x n) (n - rmR x n)) ++ brP p (b + (n - wfN t (n - rmR x n))) (wfN t (n - rmR x n))
    rw [brR_snoc t, List.append_assoc, show b + rmR x n + (n - rmR x n - wfN t (n - rmR x n)) = b + (n - wfN t (n - rmR x n)) by omega]
theorem brP_len (p : Rg) (b n : Int) : (brP p b n).length ≤ 1 := by
  unfold brP
  split <;> simp
theorem brR_len : ∀ (R : List Rg) (b n : Int), (brR R b n).length ≤ R.length
  | [], _, _ => Nat.le_refl _
  | p :: t, b, n => by
    have h1 := brP_len p b n
    have h2 := brR_len t (b + rmR p n) (n - rmR p n)
    show (brP p b n ++ brR t (b + rmR p n) (n - rmR p n)).length ≤ _
    rw [List.length_append, List.length_cons]
    omega
def addB (B : List Blk) (x : Blk) : List Blk := match B.getLast? with
  | none => B ++ [x]
  | some l => if l.1 + l.2.2 = x.1 ∧ l.2.1 + l.2.2 = x.2.1 then B.dropLast ++ [(l.1, l.2.1, l.2.2 + x.2.2)] else B ++ [x]
theorem addB_len (B : List Blk) (x : Blk) : (addB B x).length ≤ B.length + 1 := by
  unfold addB
  split
  · rw [List.length_append]
    exact Nat.le_refl _
  · split
    · rw [List.length_append, List.length_dropLast]
      simp only [List.length_cons, List.length_nil]
      omega
    · rw [List.length_append]
      exact Nat.le_refl _
def addsB (B xs : List Blk) : List Blk := xs.foldl addB B
theorem addsB_snoc (B xs : List Blk) (x : Blk) : addsB B (xs ++ [x]) = addB (addsB B xs) x := by
  unfold addsB
  rw [List.foldl_append]
  rfl
theorem addsB_len : ∀ (xs B : List Blk), (addsB B xs).length ≤ B.length + xs.length
  | [], B => Nat.le_refl _
  | x :: t, B => by
    have h1 := addsB_len t (addB B x)
    have h2 := addB_len B x
    show (addsB (addB B x) t).length ≤ _
    rw [List.length_cons]
    omega
def boR : List Run → Option Run → Int → List Rg → List Blk → List Blk
  | [], _, _, _, B => B
  | r :: t, st, b, R, B => boR t (stepR st r.1 r.2) (b + r.2) (wfR R (leavR st r.1 r.2) ++ adP st b r) (addsB B (brR R b (leavR st r.1 r.2)))
theorem boR_snoc : ∀ (l : List Run) (r : Run) (st : Option Run) (b : Int) (R : List Rg) (B : List Blk), boR (l ++ [r]) st b R B = addsB (boR l st b R B) (brR (waR l st b R) (b + lenR l) (leavR (stR l st) r.1 r.2))
  | [], r, st, b, R, B => by
    show addsB B (brR R b (leavR st r.1 r.2)) = addsB B (brR R (b + lenR []) (leavR st r.1 r.2))
    rw [lenR_nil, Int.add_zero]
  | x :: t, r, st, b, R, B => by
    show boR (t ++ [r]) (stepR st x.1 x.2) (b + x.2) (wfR R (leavR st x.1 x.2) ++ adP st b x) (addsB B (brR R b (leavR st x.1 x.2))) = addsB (boR t (stepR st x.1 x.2) (b + x.2) (wfR R (leavR st x.1 x.2) ++ adP st b x) (addsB B (brR R b (leavR st x.1 x.2)))) (brR (waR t (stepR st x.1 x.2) (b + x.2) (wfR R (leavR st x.1 x.2) ++ adP st b x)) (b + lenR (x :: t)) (leavR (stR (x :: t) st) r.1 r.2))
    rw [boR_snoc t, stR_cons, lenR_cons, Int.add_assoc]
theorem boR_len : ∀ (l : List Run) (st : Option Run) (b : Int) (R : List Rg) (B : List Blk), (boR l st b R B).length ≤ B.length + l.length * (R.length + l.length)
  | [], _, _, _, _ => by
    show _ ≤ _ + 0 * _
    rw [Nat.zero_mul]
    exact Nat.le_refl _
  | r :: t, st, b, R, B => by
    have h1 := boR_len t (stepR st r.1 r.2) (b + r.2) (wfR R (leavR st r.1 r.2) ++ adP st b r) (addsB B (brR R b (leavR st r.1 r.2)))
    have h2 := addsB_len (brR R b (leavR st r.1 r.2)) B
    have h3 := brR_len R b (leavR st r.1 r.2)
    have h4 := wfR_len R (leavR st r.1 r.2)
    have h5 := adP_len st b r
    rw [List.length_append] at h1
    show (boR t (stepR st r.1 r.2) (b + r.2) (wfR R (leavR st r.1 r.2) ++ adP st b r) (addsB B (brR R b (leavR st r.1 r.2)))).length ≤ _
    rw [List.length_cons, Nat.succ_mul]
    have h6 : t.length * ((wfR R (leavR st r.1 r.2)).length + (adP st b r).length + t.length) ≤ t.length * (R.length + (t.length + 1)) := Nat.mul_le_mul_left _ (by omega)
    omega
theorem shaped_not {B : List Blk} : B = [] ∨ ∃ B0 l, B = B0 ++ [l] := by
  rcases List.eq_nil_or_concat B with e | ⟨B0, l, e⟩
  · exact .inl e
  · exact .inr ⟨B0, l, by rw [e, List.concat_eq_append]⟩
section
variable {P : Program} {w : World} {K : PySem.W.Frag} {mg : Str → Option Value} {base : Heap}
/-! blocks_of_run: slots 0:ranges 1:start 2:leaving 3:blocks 4:first 5:last 6:size -/
abbrev s_blocks_of_run : Stmt := topS 39
theorem sc_blocks_of_run : FnScope ["ranges", "start", "leaving", "blocks", "first", "last", "size"] ["ranges", "start", "leaving"] (defScope s_blocks_of_run) := ⟨rfl, rfl, rfl, by decide +kernel, rfl, by decide +kernel, by decide +kernel⟩
def sp_blocks_of_run : Sp := fun vs H Q _ => ∃ (a : Addr) (R : List Rg) (b n : Int), vs = [.ref a, .int b, .int n] ∧ Rngs H a R ∧ R.length ≤ 100000 ∧ ∀ H' p, Same H H' → H p = none → Blks H' p (brR R b n) → Q (.ref p) H'
theorem ok_blocks_of_run (D : Df K mg "blocks_of_run" s_blocks_of_run) (T : Tx mg) : Has P w K mg base 1 "blocks_of_run" ["ranges", "start", "leaving"] sp_blocks_of_run := by
  refine has_of D sc_blocks_of_run (fun _ _ _ _ _ _ us hl => match us, hl with | [_, _, _], _ => rfl) (fun vs H Q E h => ?_) (fun f cdv A outer s₀ H vs Q E hr h => ?_)
  · obtain ⟨a, R, b, n, rfl, _⟩ := h
    rfl
  · obtain ⟨a, R, b, n, rfl, ⟨xs, hx, hp⟩, l4, q⟩ := h
    have lx : xs.length = R.length := Paired.len hp
    refine ⟨_, (pss_cons (ps_set (i := 3) sc_blocks_of_run.nd rfl (by first | exact Or.inl rfl | exact Or.inr rfl) (pe_lst pa_nil))
    (pss_cons (ps_for PassesOwn.never rfl (pi_list (pv 0)) (pg_tup rfl (pgs_cons (pg_name (i := 4) sc_blocks_of_run.nd rfl (by first | exact Or.inl rfl | exact Or.inr rfl)) (pgs_cons (pg_name (i := 5) sc_blocks_of_run.nd rfl (by first | exact Or.inl rfl | exact Or.inr rfl)) pgs_nil)))
      (pss_cons (ps_set (i := 6) sc_blocks_of_run.nd rfl (by first | exact Or.inl rfl | exact Or.inr rfl) (pe_callB (call_min2 rfl) (by rfl) T.n_min (by decide +kernel) (pa_cons (pv 2) (pa_cons (pe_op op_add (pe_op op_sub (pv 5) (pv 4)) pe_int) pa_nil))))
    (C8.pss_cut (ps_if (pt_cmpR op_gt (pv 6) pe_int (nomark _)) (pss_one (ps_expr (pe_bm PySem.F.plainAttrs_list PySem.F.slot_list_append PySem.F.type_list_append mt_append (pv 3) (pa_cons (pe_tup (pa_cons (pv 4) (pa_cons (pv 1) (pa_cons (pv 6) pa_nil)))) pa_nil)))) pss_nil)
    (pss_cons (ps_aug (i := 1) sc_blocks_of_run.nd rfl (by first | exact Or.inl rfl | exact Or.inr rfl) (pv 6) ip_add)
    (pss_one (ps_aug (i := 2) sc_blocks_of_run.nd rfl (by first | exact Or.inl rfl | exact Or.inr rfl) (pv 6) ip_sub))))))
    (pss_one (ps_ret (pv 3))))), ?_⟩
    refine ⟨Nat.zero_le _, fun p np => ?_⟩
    refine ⟨_, rfl, a, rfl, ⟨xs, .of (same_upd np _ _ hx)⟩, for_list (K := K) (a := a) (xs := xs) (fun i σ H' => ∃ c m y4 y5 y6, m = wfN (R.take i) n ∧ c = b + (n - wfN (R.take i) n) ∧ σ = [some (.ref a), some (.int c), some (.int m), some (.ref p), y4, y5, y6] ∧ Same H H' ∧ ∃ ys, H' p = some (.lst ys) ∧ Paired (BV H') ys (brR (R.take i) b n))
      ⟨b, n, none, none, none, rfl, (by show b = b + (n - n); omega), rfl, same_upd np, [], upd_same, .nil⟩ (fun i σ H' _ hP => ?_) (fun i x σ H1 ex hP => ?_) (fun σ H1 hP => ?_)⟩
    · obtain ⟨_, _, _, _, _, _, _, _, sm, _⟩ := hP
      exact .of (sm _ _ hx)
    · obtain ⟨c, m, y4, y5, y6, em, ecc, rfl, sm, ys, hL, hy⟩ := hP
      obtain ⟨r, er, hr1⟩ := Paired.at hp ex
      have hi : i < xs.length := (List.getElem?_eq_some_iff.mp ex).1
      obtain ⟨t, rfl, ht⟩ := PV.same sm hr1
      have el : wfN (R.take (i + 1)) n = m - rmR r m := by rw [take_snoc er, wfN_snoc, em]
      have ec : brR (R.take (i + 1)) b n = brR (R.take i) b n ++ brP r c m := by rw [take_snoc er, brR_snoc, ecc, em]
      refine ⟨t, _, rfl, .of ht, rfl, _, _, rfl, _, _, rfl, rfl, ?_⟩
      refine ⟨_, rfl, _, rfl, _, rfl, _, _, rfl, rfl, _, _, rfl, rfl, _, _, rfl, ?_⟩
      refine ⟨fun σ' H' => σ' = [some (.ref a), some (.int c), some (.int m), some (.ref p), some (.int r.1), some (.int r.2), some (.int (rmR r m))] ∧ Same H H' ∧ ∃ ys, H' p = some (.lst ys) ∧ Paired (BV H') ys (brR (R.take (i + 1)) b n), ?_, fun σ' H5 hM => ?_⟩
      · refine ⟨_, rfl, _, _, rfl, rfl, _, rfl, ite2 (fun e => ?_) (fun e => ?_)⟩
        · have e : 0 < rmR r m := of_decide_eq_true e
          have epc : brP r c m = [(r.1, c, rmR r m)] := if_pos e
          refine ⟨_, rfl, .inl ⟨rfl, _, SqL.of hL⟩, _, rfl, _, rfl, _, rfl, (by show 3 ≤ sizeLine; decide), fun u nn => ⟨p, _, _, rfl, rfl, same_upd nn _ _ hL, ?_, ?_⟩⟩
          · have h1 := Paired.len hy
            have h2 := brR_len (R.take i) b n
            rw [List.length_take] at h2
            exact small (by omega)
          · refine ⟨rfl, same_grow np (sm.trans (same_upd nn)), _, upd_same, ?_⟩
            rw [ec, epc]
            exact Paired.app (bvs_grow (same_upd nn _ _ hL) (bvs_same (same_upd nn) hy)) (.cons (BV.grow (same_upd nn _ _ hL) ⟨_, rfl, upd_same⟩) .nil)
        · have e : ¬ 0 < rmR r m := fun z => e (decide_eq_true z)
          have epc : brP r c m = [] := if_neg e
          refine ⟨rfl, sm, _, hL, ?_⟩
          rw [ec, epc, List.append_nil]
          exact hy
      · obtain ⟨rfl, s5, ys5, hL5, hy5⟩ := hM
        exact ⟨_, rfl, _, rfl, _, _, rfl, rfl, _, rfl, _, rfl, _, _, rfl, rfl, _, _, _, _, _, el.symm, (by show c + rmR r m = b + (n - wfN (R.take (i + 1)) n); rw [el]; omega), rfl, s5, ys5, hL5, hy5⟩
    · obtain ⟨c, m, y3, y4, y5, em, ecc, rfl, sm, ys, hL, hy⟩ := hP
      rw [lx, List.take_length] at hy
      exact ⟨_, rfl, q H1 p sm np ⟨ys, hL, hy⟩⟩
/-! add_block: slots 0:blocks 1:first 2:second 3:count 4:last_first 5:last_second 6:size -/
abbrev s_add_block : Stmt := topS 40
theorem sc_add_block : FnScope ["blocks", "first", "second", "count", "last_first", "last_second", "size"] ["blocks", "first", "second", "count"] (defScope s_add_block) := ⟨rfl, rfl, rfl, by decide +kernel, rfl, by decide +kernel, by decide +kernel⟩
def sp_add_block : Sp := fun vs H Q _ => ∃ (a : Addr) (B : List Blk) (x : Blk), vs = [.ref a, .int x.1, .int x.2.1, .int x.2.2] ∧ Blks H a B ∧ B.length ≤ 900000 ∧ ∀ H', But a H H' → Blks H' a (addB B x) → Q .non H'
theorem ok_add_block (D : Df K mg "add_block" s_add_block) : Has P w K mg base 1 "add_block" ["blocks", "first", "second", "count"] sp_add_block := by
  refine has_of D sc_add_block (fun _ _ _ _ _ _ us hl => match us, hl with | [_, _, _, _], _ => rfl) (fun vs H Q E h => ?_) (fun f cdv A outer s₀ H vs Q E hr h => ?_)
  · obtain ⟨a, R, x, rfl, _⟩ := h
    rfl
  · obtain ⟨a, B, x, rfl, ⟨xs, hx, hp⟩, l4, q⟩ := h
    have lx : xs.length = B.length := Paired.len hp
    have app : addB B x = B ++ [x] → ∀ (p : Addr), H p = none → Q .non (upd (upd H p (.tup [.int x.1, .int x.2.1, .int x.2.2])) a (.lst (xs ++ [.ref p]))) := by
      intro e p np
      have hx1 := same_upd (o := .tup [.int x.1, .int x.2.1, .int x.2.2]) np _ _ hx
      refine q _ ((Same.but (same_upd np)).trans but_upd) ⟨_, upd_same, ?_⟩
      rw [e]
      exact Paired.app (bvs_grow hx1 (bvs_same (same_upd np) hp)) (.cons (BV.grow hx1 ⟨_, rfl, upd_same⟩) .nil)
    refine ⟨_, (pss_cons (ps_if (pt_truth (pv 0) (by intro _; rfl)) (pss_cons (ps_asg (pe_ix ix_list (pv 0) (pe_un un_neg pe_int) (fun _ _ => rfl)) (pg_tup rfl (pgs_cons (pg_name (i := 4) sc_add_block.nd rfl (by first | exact Or.inl rfl | exact Or.inr rfl)) (pgs_cons (pg_name (i := 5) sc_add_block.nd rfl (by first | exact Or.inl rfl | exact Or.inr rfl)) (pgs_cons (pg_name (i := 6) sc_add_block.nd rfl (by first | exact Or.inl rfl | exact Or.inr rfl)) pgs_nil)))))
    (pss_one (ps_if (PW.pt (pw_and (pt_cmpR op_eq (pe_op op_add (pv 4) (pv 6)) (pv 1) (nomark _)) (pw_and1 (pt_cmpR op_eq (pe_op op_add (pv 5) (pv 6)) (pv 2) (nomark _))))) (pss_cons (ps_asg (pe_tup (pa_cons (pv 4) (pa_cons (pv 5) (pa_cons (pe_op op_add (pv 6) (pv 3)) pa_nil)))) (pg_sub (pv 0) (pe_un un_neg pe_int) set_list))
    (pss_one ps_retN)) pss_nil))) pss_nil)
    (pss_one (ps_expr (pe_bm PySem.F.plainAttrs_list PySem.F.slot_list_append PySem.F.type_list_append mt_append (pv 0) (pa_cons (pe_tup (pa_cons (pv 1) (pa_cons (pv 2) (pa_cons (pv 3) pa_nil)))) pa_nil))))), ?_⟩
    rcases shaped_not (B := B) with e0 | ⟨B0, l, e0⟩
    · subst e0
      cases hp
      refine ⟨_, rfl, false, .inl ⟨[], .of hx, rfl⟩, iteF ?_⟩
      exact ⟨_, rfl, .inl ⟨rfl, _, SqL.of hx⟩, _, rfl, _, rfl, _, rfl, (by show 3 ≤ sizeLine; decide), fun u nn => ⟨a, _, _, rfl, rfl, same_upd nn _ _ hx, small (by show 0 ≤ _; omega), app rfl u nn⟩⟩
    · subst e0
      obtain ⟨ys0, y, rfl, hy0, ⟨tl, rfl, htl⟩⟩ := paired_snoc B0 l hp
      have exl : atI (ys0 ++ [V.ref tl]) (-1) = some (.ref tl) := atI_last _ _
      have tr : (!(ys0 ++ [V.ref tl]).isEmpty) = true := by cases ys0 <;> rfl
      refine ⟨_, rfl, true, .inl ⟨_, .of hx, tr.symm⟩, iteT ?_⟩
      refine ⟨_, rfl, 1, rfl, a, _, -1, _, rfl, rfl, .of hx, exl, tl, _, rfl, .of htl, rfl, _, _, rfl, _, _, rfl, _, _, rfl, rfl, ?_⟩
      have ap2 : ¬ (l.1 + l.2.2 = x.1 ∧ l.2.1 + l.2.2 = x.2.1) → addB (B0 ++ [l]) x = (B0 ++ [l]) ++ [x] := by
        intro z
        unfold addB
        rw [List.getLast?_concat]
        exact if_neg z
      have lx2 : (ys0 ++ [V.ref tl]).length ≤ 900000 := by rw [lx]; exact l4
      refine ⟨_, rfl, _, rfl, _, _, rfl, rfl, _, rfl, rfl, _, rfl, ite2 (fun e1 => ?_) (fun e1 => ?_)⟩
      · have e1 : l.1 + l.2.2 = x.1 := V.int.inj (of_decide_eq_true e1)
        refine ⟨_, rfl, _, rfl, _, _, rfl, rfl, _, rfl, rfl, _, rfl, ite2 (fun e2 => ?_) (fun e2 => ?_)⟩
        · have e2 : l.2.1 + l.2.2 = x.2.1 := V.int.inj (of_decide_eq_true e2)
          have er : addB (B0 ++ [l]) x = B0 ++ [(l.1, l.2.1, l.2.2 + x.2.2)] := by
            unfold addB
            rw [List.getLast?_concat, List.dropLast_concat]
            exact if_pos ⟨e1, e2⟩
          refine ⟨_, rfl, _, rfl, _, rfl, _, rfl, _, _, rfl, rfl, (by show 3 ≤ sizeLine; decide), fun u nn => ⟨_, rfl, 1, rfl, a, _, -1, ys0.length, rfl, rfl, same_upd nn _ _ hx, ?_, ?_⟩⟩
          · rw [List.length_append]
            exact ixN_lastX
          · rw [set_lastX]
            have hx1 := same_upd (o := .tup [.int l.1, .int l.2.1, .int (l.2.2 + x.2.2)]) nn _ _ hx
            refine q _ ((Same.but (same_upd nn)).trans but_upd) ⟨_, upd_same, ?_⟩
            rw [er]
            exact Paired.app (bvs_grow hx1 (bvs_same (same_upd nn) hy0)) (.cons (BV.grow hx1 ⟨_, rfl, upd_same⟩) .nil)
        · have e2 : ¬ l.2.1 + l.2.2 = x.2.1 := fun z => e2 (decide_eq_true (by show V.int (l.2.1 + l.2.2) = V.int x.2.1; rw [z]))
          exact ⟨_, rfl, .inl ⟨rfl, _, SqL.of hx⟩, _, rfl, _, rfl, _, rfl, (by show 3 ≤ sizeLine; decide), fun u nn => ⟨a, _, _, rfl, rfl, same_upd nn _ _ hx, small (by omega), app (ap2 fun z => e2 z.2) u nn⟩⟩
      · have e1 : ¬ l.1 + l.2.2 = x.1 := fun z => e1 (decide_eq_true (by show V.int (l.1 + l.2.2) = V.int x.1; rw [z]))
        refine iteF ?_
        exact ⟨_, rfl, .inl ⟨rfl, _, SqL.of hx⟩, _, rfl, _, rfl, _, rfl, (by show 3 ≤ sizeLine; decide), fun u nn => ⟨a, _, _, rfl, rfl, same_upd nn _ _ hx, small (by omega), app (ap2 fun z => e1 z.1) u nn⟩⟩
end
end UP

set_option Elab.async false
set_option linter.all false
set_option maxRecDepth 100000
set_option maxHeartbeats 4000000
namespace UP
open PySem PySem.Spec PyProof.Rows L2
def pgR : List Blk → Int → Option Int
  | [], _ => none
  | x :: t, p => if x.1 ≤ p ∧ p < x.1 + x.2.2 then some (x.2.1 + p - x.1) else if x.2.1 ≤ p ∧ p < x.2.1 + x.2.2 then some (x.1 + p - x.2.1) else pgR t p
def oI : Option Int → V
  | none => .non
  | some i => .int i
theorem drop_at {α : Type} {l : List α} {i : Nat} {x : α} (h : l[i]? = some x) : l.drop i = x :: l.drop (i + 1) := by
  obtain ⟨hi, e⟩ := List.getElem?_eq_some_iff.mp h
  rw [List.drop_eq_getElem_cons hi, e]
def blR (rs : List Run) : List Blk := boR rs none 0 [] []
theorem Rngs.butB {H H' : Hp} {D a : Addr} {acc : List V} {R : List Rg} (hD : H D = some (.lst acc)) (n : a ≠ D) (s : But D H H') (h : Rngs H a R) : Rngs H' a R := by
  obtain ⟨xs, hx, hp⟩ := h
  refine ⟨xs, s _ _ n hx, Paired.imp (fun v p z => ?_) hp⟩
  obtain ⟨t, e, ht⟩ := z
  exact ⟨t, e, s _ _ (ne_of ht hD (by intro q; cases q)) ht⟩
theorem Runs.butB {H H' : Hp} {D a : Addr} {acc : List V} {R : List Run} (hD : H D = some (.lst acc)) (n : a ≠ D) (s : But D H H') (h : Runs H a R) : Runs H' a R := by
  obtain ⟨xs, hx, hp⟩ := h
  refine ⟨xs, s _ _ n hx, Paired.imp (fun v p z => ?_) hp⟩
  obtain ⟨t, e, ht⟩ := z
  exact ⟨t, e, s _ _ (ne_of ht hD (by intro q; cases q)) ht⟩
theorem StV.butB {H H' : Hp} {D : Addr} {acc : List V} {v : V} {st : Option Run} (hD : H D = some (.lst acc)) (s : But D H H') (h : StV H v st) : StV H' v st := by
  cases st with
  | none => exact h
  | some r =>
    obtain ⟨t, e, ht⟩ := h
    exact ⟨t, e, s _ _ (ne_of ht hD (by intro q; cases q)) ht⟩
/-- what was there before stays, whatever is done to a list that is new -/
theorem Same.butB {H H1 H' : Hp} {D : Addr} (n : H D = none) (s : Same H H1) (b : But D H1 H') : Same H H' := fun a o e => b _ _ (ne_of_none e n) (s _ _ e)
section
variable {P : Program} {w : World} {K : PySem.W.Frag} {mg : Str → Option Value} {base : Heap}
/-! blocks_of: slots 0:runs 1:blocks 2:ranges 3:state 4:start 5:kind 6:count 7:leaving 8:first 9:second 10:size -/
abbrev s_blocks_of : Stmt := topS 41
theorem sc_blocks_of : FnScope ["runs", "blocks", "ranges", "state", "start", "kind", "count", "leaving", "first", "second", "size"] ["runs"] (defScope s_blocks_of) := ⟨rfl, rfl, rfl, by decide +kernel, rfl, by decide +kernel, by decide +kernel⟩
def sp_blocks_of : Sp := fun vs H Q _ => ∃ (a : Addr) (rs : List Run), vs = [.ref a] ∧ Runs H a rs ∧ rs.length ≤ 400 ∧ (∀ r ∈ rs, 1 ≤ r.2) ∧ Alt rs ∧ ∀ H' p, Same H H' → H p = none → Blks H' p (blR rs) → Q (.ref p) H'
theorem ok_blocks_of (D : Df K mg "blocks_of" s_blocks_of) (G_leaving_number : Has P w K mg base 1 "leaving_number" ["state", "kind", "count"] sp_leaving_number) (G_blocks_of_run : Has P w K mg base 1 "blocks_of_run" ["ranges", "start", "leaving"] sp_blocks_of_run)
    (G_add_block : Has P w K mg base 1 "add_block" ["blocks", "first", "second", "count"] sp_add_block) (G_ranges_after_run : Has P w K mg base 2 "ranges_after_run" ["ranges", "start", "count", "leaving"] sp_ranges_after_run) (G_state_after_run : Has P w K mg base 2 "state_after_run" ["state", "kind", "count"] sp_state_after_run) :
    Has P w K mg base 3 "blocks_of" ["runs"] sp_blocks_of := by
  refine has_of D sc_blocks_of (fun _ _ _ _ _ _ us hl => match us, hl with | [_], _ => rfl) (fun vs H Q E h => ?_) (fun f cdv A outer s₀ H vs Q E hr h => ?_)
  · obtain ⟨a, R, rfl, _⟩ := h
    rfl
  · obtain ⟨a, rs, rfl, ⟨xs, hx, hpr⟩, l4, pos, al, q⟩ := h
    have lx : xs.length = rs.length := Paired.len hpr
    refine ⟨_, (pss_cons (ps_set (i := 1) sc_blocks_of.nd rfl (by first | exact Or.inl rfl | exact Or.inr rfl) (pe_lst pa_nil))
    (pss_cons (ps_set (i := 2) sc_blocks_of.nd rfl (by first | exact Or.inl rfl | exact Or.inr rfl) (pe_lst pa_nil))
    (pss_cons (ps_set (i := 3) sc_blocks_of.nd rfl (by first | exact Or.inl rfl | exact Or.inr rfl) pe_non)
    (pss_cons (ps_set (i := 4) sc_blocks_of.nd rfl (by first | exact Or.inl rfl | exact Or.inr rfl) pe_int)
    (pss_cons (ps_for PassesOwn.never rfl (pi_list (pv 0)) (pg_tup rfl (pgs_cons (pg_name (i := 5) sc_blocks_of.nd rfl (by first | exact Or.inl rfl | exact Or.inr rfl)) (pgs_cons (pg_name (i := 6) sc_blocks_of.nd rfl (by first | exact Or.inl rfl | exact Or.inr rfl)) pgs_nil)))
      (pss_cons (ps_set (i := 7) sc_blocks_of.nd rfl (by first | exact Or.inl rfl | exact Or.inr rfl) (pe_callH G_leaving_number (hr.mono (by omega)) (by rfl) (pa_cons (pv 3) (pa_cons (pv 5) (pa_cons (pv 6) pa_nil)))))
    (pss_cons (ps_for PassesOwn.never rfl (pi_list (pe_callH G_blocks_of_run (hr.mono (by omega)) (by rfl) (pa_cons (pv 2) (pa_cons (pv 4) (pa_cons (pv 7) pa_nil))))) (pg_tup rfl (pgs_cons (pg_name (i := 8) sc_blocks_of.nd rfl (by first | exact Or.inl rfl | exact Or.inr rfl)) (pgs_cons (pg_name (i := 9) sc_blocks_of.nd rfl (by first | exact Or.inl rfl | exact Or.inr rfl)) (pgs_cons (pg_name (i := 10) sc_blocks_of.nd rfl (by first | exact Or.inl rfl | exact Or.inr rfl)) pgs_nil))))
      (pss_one (ps_expr (pe_callH G_add_block (hr.mono (by omega)) (by rfl) (pa_cons (pv 1) (pa_cons (pv 8) (pa_cons (pv 9) (pa_cons (pv 10) pa_nil))))))))
    (pss_cons (ps_set (i := 2) sc_blocks_of.nd rfl (by first | exact Or.inl rfl | exact Or.inr rfl) (pe_callH G_ranges_after_run (hr.mono (by omega)) (by rfl) (pa_cons (pv 2) (pa_cons (pv 4) (pa_cons (pv 6) (pa_cons (pv 7) pa_nil))))))
    (pss_cons (ps_set (i := 3) sc_blocks_of.nd rfl (by first | exact Or.inl rfl | exact Or.inr rfl) (pe_callH G_state_after_run (hr.mono (by omega)) (by rfl) (pa_cons (pv 3) (pa_cons (pv 5) (pa_cons (pv 6) pa_nil)))))
    (pss_one (ps_aug (i := 4) sc_blocks_of.nd rfl (by first | exact Or.inl rfl | exact Or.inr rfl) (pv 6) ip_add)))))))
    (pss_one (ps_ret (pv 1)))))))), ?_⟩
    refine ⟨Nat.zero_le _, fun p np => ⟨Nat.zero_le _, fun e ne => ?_⟩⟩
    have sp := same_upd (o := .lst []) np
    have se := same_upd (o := .lst []) ne
    have ep : e ≠ p := fun z => by rw [z, upd_same] at ne; cases ne
    have neH : H e = none := sp.free ne
    have hp0 : (upd (upd H p (.lst [])) e (.lst [])) p = some (.lst []) := by rw [upd_ne ep.symm, upd_same]
    refine ⟨_, rfl, a, rfl, ⟨xs, .of (se _ _ (sp _ _ hx))⟩, for_list (K := K) (a := a) (xs := xs) (fun i σ H' => ∃ v b c y5 y6 y7 y8 y9 y10, b = lenR (rs.take i) ∧ σ = [some (.ref a), some (.ref p), some (.ref c), some v, some (.int b), y5, y6, y7, y8, y9, y10] ∧ Same H H' ∧ c ≠ p ∧ StV H' v (stR (rs.take i) none) ∧ Rngs H' c (waR (rs.take i) none 0 []) ∧ Blks H' p (blR (rs.take i)))
      ⟨.non, 0, e, none, none, none, none, none, none, rfl, rfl, sp.trans se, ep, rfl, ⟨[], upd_same, .nil⟩, ⟨[], hp0, .nil⟩⟩ (fun i σ H' _ hP => ?_) (fun i x σ H4 ex hP => ?_) (fun σ H4 hP => ?_)⟩
    · obtain ⟨_, _, _, _, _, _, _, _, _, _, _, sm, _⟩ := hP
      exact .of (sm _ _ hx)
    · obtain ⟨v, b, c, y5, y6, y7, y8, y9, y10, rfl, rfl, sm, cp, hv, hR4, hB4⟩ := hP
      obtain ⟨r, er, hr1⟩ := Paired.at hpr ex
      obtain ⟨t, rfl, ht⟩ := RunV.same sm hr1
      have hi : i < xs.length := (List.getElem?_eq_some_iff.mp ex).1
      have c1 : 1 ≤ r.2 := pos r (List.mem_of_getElem? er)
      have el : lenR (rs.take (i + 1)) = lenR (rs.take i) + r.2 := by rw [take_snoc er, lenR_snoc]
      have es : stR (rs.take (i + 1)) none = stepR (stR (rs.take i) none) r.1 r.2 := by rw [take_snoc er, stR_snoc]
      have ew : waR (rs.take (i + 1)) none 0 [] = wfR (waR (rs.take i) none 0 []) (leavR (stR (rs.take i) none) r.1 r.2) ++ adP (stR (rs.take i) none) (lenR (rs.take i)) r := by rw [take_snoc er, waR_snoc, Int.zero_add]
      have eb : blR (rs.take (i + 1)) = addsB (blR (rs.take i)) (brR (waR (rs.take i) none 0 []) (lenR (rs.take i)) (leavR (stR (rs.take i) none) r.1 r.2)) := by
        unfold blR
        rw [take_snoc er, boR_snoc, Int.zero_add]
      have lw := waR_len (rs.take i) none 0 []
      have lb := boR_len (rs.take i) none 0 [] []
      have lb2 : (blR (rs.take i)).length ≤ 160000 := by
        refine Nat.le_trans lb ?_
        have h1 : (rs.take i).length ≤ 400 := by rw [List.length_take]; omega
        have h2 := Nat.mul_le_mul h1 h1
        show ([] : List Blk).length + (rs.take i).length * (0 + (rs.take i).length) ≤ _
        rw [List.length_nil, Nat.zero_add, Nat.zero_add]
        omega
      rw [List.length_take, List.length_nil] at lw
      have nt := no_touch pos al er
      rw [el, es, ew, eb]
      generalize lenR (rs.take i) = b at *
      generalize stR (rs.take i) none = st at *
      generalize waR (rs.take i) none 0 [] = R at *
      generalize blR (rs.take i) = B at *
      clear lb
      refine ⟨t, _, rfl, .of ht, rfl, _, _, rfl, _, _, rfl, rfl, ?_⟩
      refine ⟨_, rfl, _, rfl, _, rfl, v, st, r.1, r.2, rfl, hv, ?_⟩
      have hlv : ∃ n, leavR st r.1 r.2 = n := ⟨_, rfl⟩
      obtain ⟨n, hn⟩ := hlv
      have had : adQ b r.2 n = adP st b r := by rw [← hn]; rfl
      rw [hn, ← had]
      rw [hn] at nt
      -- the blocks of the run
      refine ⟨_, rfl, _, rfl, _, rfl, c, R, b, n, rfl, hR4, by omega, fun H5 p5 s5 n5 h5 => ?_⟩
      have lbr := brR_len R b n
      obtain ⟨zs, hz, hzp⟩ := h5
      have lz : zs.length = (brR R b n).length := Paired.len hzp
      have p5p : p5 ≠ p := by
        obtain ⟨_, hB, _⟩ := hB4
        exact (ne_of_none hB n5).symm
      have hR5 := hR4.same s5
      have hv5 := hv.same s5
      have hB5 := hB4.same s5
      refine ⟨p5, rfl, ⟨zs, .of hz⟩, for_list (K := K) (a := p5) (xs := zs) (fun j σ H' => ∃ y8 y9 y10, σ = [some (.ref a), some (.ref p), some (.ref c), some v, some (.int b), some (.str r.1), some (.int r.2), some (.int n), y8, y9, y10] ∧ But p H5 H' ∧ Blks H' p (addsB B ((brR R b n).take j)))
        ⟨_, _, _, rfl, But.refl, hB5⟩ (fun j σ H' _ hP => ?_) (fun j x σ H6 ex6 hP => ?_) (fun σ H6 hP => ?_)⟩
      · obtain ⟨_, _, _, _, bt, _⟩ := hP
        exact .of (bt _ _ p5p hz)
      · obtain ⟨y8, y9, y10, rfl, bt, hB6⟩ := hP
        obtain ⟨k, ek, hk⟩ := Paired.at hzp ex6
        obtain ⟨_, hB5x, _⟩ := id hB5
        obtain ⟨tk, rfl, htk⟩ := BV.but hB5x bt hk
        refine ⟨tk, _, rfl, .of htk, rfl, _, _, rfl, _, _, rfl, _, _, rfl, rfl, ?_⟩
        have la := addsB_len ((brR R b n).take j) B
        rw [List.length_take] at la
        refine ⟨_, rfl, _, rfl, _, rfl, _, rfl, p, _, k, rfl, hB6, by omega, fun H7 b7 h7 => ⟨_, _, _, rfl, bt.trans b7, ?_⟩⟩
        rw [take_snoc ek, addsB_snoc]
        exact h7
      · obtain ⟨y8, y9, y10, rfl, bt, hB6⟩ := hP
        rw [lz, List.take_length] at hB6
        obtain ⟨_, hB5x, _⟩ := id hB5
        have hR6 := hR5.butB hB5x cp bt
        have hv6 := hv5.butB hB5x bt
        have s6 : Same H H6 := Same.butB np (sm.trans s5) bt
        refine ⟨_, rfl, _, rfl, _, rfl, _, rfl, c, R, b, r.2, n, rfl, hR6, by omega, nt, fun H7 p7 s7 n7 h7 => ?_⟩
        refine ⟨_, rfl, _, rfl, _, rfl, v, st, r.1, r.2, rfl, hv6.same s7, c1, fun H8 v8 s8 h8 => ?_⟩
        have p7p : p7 ≠ p := by
          obtain ⟨_, hB, _⟩ := hB6
          exact (ne_of_none hB n7).symm
        exact ⟨_, rfl, _, rfl, _, _, rfl, rfl, v8, _, p7, _, _, _, _, _, _, rfl, rfl, s6.trans (s7.trans s8), p7p, h8, h7.same s8, (hB6.same s7).same s8⟩
    · obtain ⟨v, b, c, y5, y6, y7, y8, y9, y10, rfl, rfl, sm, cp, hv, hR4, hB4⟩ := hP
      rw [lx, List.take_length] at hB4
      exact ⟨_, rfl, q H4 p sm np hB4⟩
/-! partner_in: slots 0:blocks 1:position 2:first 3:second 4:count -/
abbrev s_partner_in : Stmt := topS 43
theorem sc_partner_in : FnScope ["blocks", "position", "first", "second", "count"] ["blocks", "position"] (defScope s_partner_in) := ⟨rfl, rfl, rfl, by decide +kernel, rfl, by decide +kernel, by decide +kernel⟩
def sp_partner_in : Sp := fun vs H Q _ => ∃ (a : Addr) (B : List Blk) (m : Int), vs = [.ref a, .int m] ∧ Blks H a B ∧ Q (oI (pgR B m)) H
theorem ok_partner_in (D : Df K mg "partner_in" s_partner_in) : Has P w K mg base 1 "partner_in" ["blocks", "position"] sp_partner_in := by
  refine has_of D sc_partner_in (fun _ _ _ _ _ _ us hl => match us, hl with | [_, _], _ => rfl) (fun vs H Q E h => ?_) (fun f cdv A outer s₀ H vs Q E hr h => ?_)
  · obtain ⟨a, R, n, rfl, _⟩ := h
    rfl
  · obtain ⟨a, B, m, rfl, ⟨xs, hx, hpr⟩, q⟩ := h
    refine ⟨_, (pss_cons (ps_for PassesOwn.never rfl (pi_list (pv 0)) (pg_tup rfl (pgs_cons (pg_name (i := 2) sc_partner_in.nd rfl (by first | exact Or.inl rfl | exact Or.inr rfl)) (pgs_cons (pg_name (i := 3) sc_partner_in.nd rfl (by first | exact Or.inl rfl | exact Or.inr rfl)) (pgs_cons (pg_name (i := 4) sc_partner_in.nd rfl (by first | exact Or.inl rfl | exact Or.inr rfl)) pgs_nil))))
      (C8.pss_cut (ps_if (pt_chain op_le op_lt (pv 2) (pv 1) (pe_op op_add (pv 2) (pv 4))) (pss_one (ps_ret (pe_op op_sub (pe_op op_add (pv 3) (pv 1)) (pv 2)))) pss_nil)
    (pss_one (ps_if (pt_chain op_le op_lt (pv 3) (pv 1) (pe_op op_add (pv 3) (pv 4))) (pss_one (ps_ret (pe_op op_sub (pe_op op_add (pv 2) (pv 1)) (pv 3)))) pss_nil))))
    (pss_one (ps_ret pe_non))), ?_⟩
    have lx : xs.length = B.length := Paired.len hpr
    refine ⟨_, rfl, a, rfl, ⟨xs, .of hx⟩, for_list (K := K) (a := a) (xs := xs) (fun i σ H' => ∃ y3 y4 y5, σ = [some (.ref a), some (.int m), y3, y4, y5] ∧ H' = H ∧ pgR B m = pgR (B.drop i) m)
      ⟨none, none, none, rfl, rfl, rfl⟩ (fun i σ H' _ hP => ?_) (fun i x σ H4 ex hP => ?_) (fun σ H4 hP => ?_)⟩
    · obtain ⟨_, _, _, _, rfl, _⟩ := hP
      exact .of hx
    · obtain ⟨y3, y4, y5, rfl, rfl, eq⟩ := hP
      obtain ⟨k, ek, ⟨t, rfl, ht⟩⟩ := Paired.at hpr ex
      have ed : B.drop i = k :: B.drop (i + 1) := drop_at ek
      rw [ed] at eq
      refine ⟨t, _, rfl, .of ht, rfl, _, _, rfl, _, _, rfl, _, _, rfl, rfl, ?_⟩
      have done : ∀ z : Option Int, pgR B m = z → Q (oI z) H4 := fun z e => by
        rw [← e]
        exact q
      have e0 : pgR (k :: B.drop (i + 1)) m = if k.1 ≤ m ∧ m < k.1 + k.2.2 then some (k.2.1 + m - k.1) else if k.2.1 ≤ m ∧ m < k.2.1 + k.2.2 then some (k.1 + m - k.2.1) else pgR (B.drop (i + 1)) m := rfl
      refine ⟨fun σ' H' => σ' = [some (.ref a), some (.int m), some (.int k.1), some (.int k.2.1), some (.int k.2.2)] ∧ H' = H4 ∧ ¬ (k.1 ≤ m ∧ m < k.1 + k.2.2), ?_, fun σ' H6 hM => ?_⟩
      · by_cases c1 : k.1 ≤ m ∧ m < k.1 + k.2.2
        · rw [e0, if_pos c1] at eq
          refine ⟨_, rfl, _, rfl, _, _, rfl, rfl, _, rfl, iteP (decide_eq_true c1.1) ⟨_, rfl, _, rfl, _, _, rfl, rfl, _, _, rfl, rfl, _, rfl, iteP (decide_eq_true c1.2) ?_⟩⟩
          exact ⟨_, rfl, _, rfl, _, _, rfl, rfl, _, rfl, _, _, rfl, rfl, done _ eq⟩
        · by_cases c2 : k.1 ≤ m
          · exact ⟨_, rfl, _, rfl, _, _, rfl, rfl, _, rfl, iteP (decide_eq_true c2) ⟨_, rfl, _, rfl, _, _, rfl, rfl, _, _, rfl, rfl, _, rfl, iteN (decide_eq_false fun z => c1 ⟨c2, z⟩) ⟨rfl, rfl, c1⟩⟩⟩
          · exact ⟨_, rfl, _, rfl, _, _, rfl, rfl, _, rfl, iteN (decide_eq_false c2) ⟨_, rfl, iteF ⟨rfl, rfl, c1⟩⟩⟩
      · obtain ⟨rfl, rfl, c1⟩ := hM
        rw [e0, if_neg c1] at eq
        by_cases c1 : k.2.1 ≤ m ∧ m < k.2.1 + k.2.2
        · rw [if_pos c1] at eq
          refine ⟨_, rfl, _, rfl, _, _, rfl, rfl, _, rfl, iteP (decide_eq_true c1.1) ⟨_, rfl, _, rfl, _, _, rfl, rfl, _, _, rfl, rfl, _, rfl, iteP (decide_eq_true c1.2) ?_⟩⟩
          exact ⟨_, rfl, _, rfl, _, _, rfl, rfl, _, rfl, _, _, rfl, rfl, done _ eq⟩
        · rw [if_neg c1] at eq
          by_cases c2 : k.2.1 ≤ m
          · exact ⟨_, rfl, _, rfl, _, _, rfl, rfl, _, rfl, iteP (decide_eq_true c2) ⟨_, rfl, _, rfl, _, _, rfl, rfl, _, _, rfl, rfl, _, rfl, iteN (decide_eq_false fun z => c1 ⟨c2, z⟩) ⟨_, _, _, rfl, rfl, eq⟩⟩⟩
          · exact ⟨_, rfl, _, rfl, _, _, rfl, rfl, _, rfl, iteN (decide_eq_false c2) ⟨_, rfl, iteF ⟨_, _, _, rfl, rfl, eq⟩⟩⟩
    · obtain ⟨y3, y4, y5, rfl, rfl, eq⟩ := hP
      rw [lx, List.drop_length] at eq
      have := q
      rw [eq] at this
      exact this
/-! partner_of: slots 0:sequence 1:position 2:runs -/
abbrev s_partner_of : Stmt := topS 44
theorem sc_partner_of : FnScope ["sequence", "position", "runs"] ["sequence", "position"] (defScope s_partner_of) := ⟨rfl, rfl, rfl, by decide +kernel, rfl, by decide +kernel, by decide +kernel⟩
def sp_partner_of : Sp := fun vs H Q _ => ∃ (av : V) (rs : List Run) (m : Int), vs = [av, .int m] ∧ RunsG H av rs ∧ SeqOk rs ∧ 0 ≤ m ∧ m < lenR rs ∧ ∀ H', Same H H' → Q (oI (pgR (blR rs) m)) H'
theorem ok_partner_of (D : Df K mg "partner_of" s_partner_of) (G_checked_runs : Has P w K mg base 5 "checked_runs" ["sequence"] sp_checked_runs) (G_check_position : Has P w K mg base 3 "check_position" ["runs", "position"] sp_check_position) (G_blocks_of : Has P w K mg base 3 "blocks_of" ["runs"] sp_blocks_of) (G_partner_in : Has P w K mg base 1 "partner_in" ["blocks", "position"] sp_partner_in) :
    Has P w K mg base 6 "partner_of" ["sequence", "position"] sp_partner_of := by
  refine has_of D sc_partner_of (fun _ _ _ _ _ _ us hl => match us, hl with | [_, _], _ => rfl) (fun vs H Q E h => ?_) (fun f cdv A outer s₀ H vs Q E hr h => ?_)
  · obtain ⟨a, R, n, rfl, _⟩ := h
    rfl
  · obtain ⟨av, rs, m, rfl, hR, ok, m0, m1, q⟩ := h
    have l4 : rs.length ≤ 400 := ok.1
    refine ⟨_, (pss_cons (ps_set (i := 2) sc_partner_of.nd rfl (by first | exact Or.inl rfl | exact Or.inr rfl) (pe_callH G_checked_runs (hr.mono (by omega)) (by rfl) (pa_cons (pv 0) pa_nil)))
    (pss_cons (ps_expr (pe_callH G_check_position (hr.mono (by omega)) (by rfl) (pa_cons (pv 2) (pa_cons (pv 1) pa_nil))))
    (pss_one (ps_ret (pe_callH G_partner_in (hr.mono (by omega)) (by rfl) (pa_cons (pe_callH G_blocks_of (hr.mono (by omega)) (by rfl) (pa_cons (pv 2) pa_nil)) (pa_cons (pv 1) pa_nil))))))), ?_⟩
    refine ⟨_, rfl, av, rs, rfl, hR, ok, fun H1 p s1 np hp => ?_⟩
    refine ⟨_, rfl, _, rfl, p, rs, m, rfl, hp, by omega, m0, m1, fun H2 s2 => ?_⟩
    refine ⟨_, rfl, p, rs, rfl, hp.same s2, l4, (fun r hr => (ok.2.1 r hr).2.1), ok.2.2, fun H3 p3 s3 n3 h3 => ?_⟩
    exact ⟨_, rfl, p3, blR rs, m, rfl, h3, q _ (s1.trans (s2.trans s3))⟩
end
end UP

set_option Elab.async false
set_option linter.all false
set_option maxRecDepth 100000
set_option maxHeartbeats 4000000
namespace UP
open PySem PySem.Spec PyProof.Rows L2
/-! ### pairs written out -/
abbrev Pr := Int × Int
def zpL : List Int → Int → List Pr
  | [], _ => []
  | p :: t, b => (p, b) :: zpL t (b + 1)
theorem zpL_app : ∀ (l m : List Int) (b : Int), zpL (l ++ m) b = zpL l b ++ zpL m (b + (l.length : Int))
  | [], m, b => by
    show zpL m b = zpL m (b + ((0 : Nat) : Int))
    rw [show b + ((0 : Nat) : Int) = b by omega]
  | p :: t, m, b => by
    show (p, b) :: zpL (t ++ m) (b + 1) = (p, b) :: (zpL t (b + 1) ++ zpL m (b + ((p :: t).length : Int)))
    rw [zpL_app t m, List.length_cons, show b + 1 + (t.length : Int) = b + ((t.length + 1 : Nat) : Int) by omega]
def flX (x : Blk) : List Pr := zpL (posL x.1 x.2.2.toNat) x.2.1
def flB (B : List Blk) : List Pr := B.flatMap flX
theorem flB_app (B C : List Blk) : flB (B ++ C) = flB B ++ flB C := List.flatMap_append ..
theorem flB_one (x : Blk) : flB [x] = flX x := by
  show flX x ++ [] = _
  rw [List.append_nil]
def PosB (B : List Blk) : Prop := ∀ x ∈ B, 0 < x.2.2
theorem posL_take : ∀ (n k : Nat) (a : Int), k ≤ n → (posL a n).take k = posL a k := by
  intro n k a h
  have e : n = k + (n - k) := by omega
  rw [e, posL_app, List.take_append_of_le_length (by rw [posL_len]; exact Nat.le_refl _), List.take_of_length_le (by rw [posL_len]; exact Nat.le_refl _)]
theorem fl_br {c : Int} : ∀ {R : List Rg} {b n : Int}, Gd R c → 0 ≤ n → flB (brR R b n) = zpL ((flR R).take n.toNat) b
  | [], b, n, _, _ => by
    show ([] : List Pr) = zpL (([] : List Int).take _) b
    rw [List.take_nil]
    rfl
  | p :: t, b, n, g, hn => by
    have g1 := g.1
    have h := rm_le (p := p) g1 hn
    have ih := fl_br (b := b + rmR p n) (n := n - rmR p n) g.2.2.2 (by omega)
    show flB (brP p b n ++ brR t (b + rmR p n) (n - rmR p n)) = zpL ((flP p ++ flR t).take n.toNat) b
    have lp : (flP p).length = (p.2 - p.1 + 1).toNat := posL_len _ _
    have e1 : flB (brP p b n) = zpL (posL p.1 (rmR p n).toNat) b := by
      by_cases c : 0 < rmR p n
      · rw [show brP p b n = [(p.1, b, rmR p n)] from if_pos c, flB_one]
        rfl
      · rw [show brP p b n = [] from if_neg c, show (rmR p n).toNat = 0 by omega]
        rfl
    rw [flB_app, ih, e1, List.take_append, zpL_app, lp]
    have e2 : (flP p).take n.toNat = posL p.1 (rmR p n).toNat := by
      by_cases c : rmR p n < p.2 - p.1 + 1
      · have e := h.2.2.2 c
        unfold flP
        rw [posL_take _ _ _ (by omega), e]
      · rw [List.take_of_length_le (by omega)]
        unfold flP
        rw [show (p.2 - p.1 + 1).toNat = (rmR p n).toNat by omega]
    rw [e2, posL_len, show ((rmR p n).toNat : Int) = rmR p n by omega, show (n - rmR p n).toNat = n.toNat - (p.2 - p.1 + 1).toNat by
      by_cases c : rmR p n < p.2 - p.1 + 1
      · have e := h.2.2.2 c
        omega
      · omega]
theorem pos_brR : ∀ (R : List Rg) (b n : Int), PosB (brR R b n)
  | [], _, _ => fun x h => by cases h
  | p :: t, b, n => by
    intro x hx
    rcases List.mem_append.mp (show x ∈ brP p b n ++ brR t (b + rmR p n) (n - rmR p n) from hx) with z | z
    · by_cases c : 0 < rmR p n
      · rw [show brP p b n = [(p.1, b, rmR p n)] from if_pos c] at z
        rw [List.mem_singleton.mp z]
        exact c
      · rw [show brP p b n = [] from if_neg c] at z
        cases z
    · exact pos_brR t _ _ x z
theorem addB_cases (B : List Blk) (x : Blk) : addB B x = B ++ [x] ∨ ∃ B0 l, B = B0 ++ [l] ∧ l.1 + l.2.2 = x.1 ∧ l.2.1 + l.2.2 = x.2.1 ∧ addB B x = B0 ++ [(l.1, l.2.1, l.2.2 + x.2.2)] := by
  rcases shaped_not (B := B) with e | ⟨B0, l, e⟩
  · subst e
    exact .inl rfl
  · subst e
    by_cases c : l.1 + l.2.2 = x.1 ∧ l.2.1 + l.2.2 = x.2.1
    · refine .inr ⟨B0, l, rfl, c.1, c.2, ?_⟩
      unfold addB
      rw [List.getLast?_concat, List.dropLast_concat]
      exact if_pos c
    · refine .inl ?_
      unfold addB
      rw [List.getLast?_concat]
      exact if_neg c
theorem fl_add {B : List Blk} {x : Blk} (h : PosB B) (hx : 0 < x.2.2) : flB (addB B x) = flB B ++ flX x ∧ PosB (addB B x) := by
  rcases addB_cases B x with e | ⟨B0, l, e0, c1, c2, e⟩
  · rw [e, flB_app, flB_one]
    refine ⟨rfl, fun y hy => ?_⟩
    rcases List.mem_append.mp hy with z | z
    · exact h y z
    · rw [List.mem_singleton.mp z]
      exact hx
  · subst e0
    have hl : 0 < l.2.2 := h l (List.mem_append.mpr (.inr (List.mem_singleton.mpr rfl)))
    rw [e]
    refine ⟨?_, fun y hy => ?_⟩
    · rw [flB_app, flB_app, flB_one, flB_one, List.append_assoc]
      congr 1
      show zpL (posL l.1 (l.2.2 + x.2.2).toNat) l.2.1 = zpL (posL l.1 l.2.2.toNat) l.2.1 ++ zpL (posL x.1 x.2.2.toNat) x.2.1
      rw [show (l.2.2 + x.2.2).toNat = l.2.2.toNat + x.2.2.toNat by omega, posL_app, zpL_app, posL_len, show ((l.2.2.toNat : Nat) : Int) = l.2.2 by omega, c1, c2]
    · rcases List.mem_append.mp hy with z | z
      · exact h y (List.mem_append.mpr (.inl z))
      · rw [List.mem_singleton.mp z]
        show 0 < l.2.2 + x.2.2
        omega
theorem fl_adds : ∀ (xs B : List Blk), PosB B → PosB xs → flB (addsB B xs) = flB B ++ flB xs ∧ PosB (addsB B xs)
  | [], B, h, _ => by
    refine ⟨?_, h⟩
    show flB B = flB B ++ []
    rw [List.append_nil]
  | x :: t, B, h, hx => by
    obtain ⟨a1, a2⟩ := fl_add (x := x) h (hx x (List.mem_cons_self ..))
    obtain ⟨b1, b2⟩ := fl_adds t (addB B x) a2 fun y hy => hx y (List.mem_cons_of_mem _ hy)
    refine ⟨?_, b2⟩
    show flB (addsB (addB B x) t) = flB B ++ (flX x ++ flB t)
    rw [b1, a1, List.append_assoc]
/-! ### the pairs of a run -/
theorem psR_app : ∀ (l m : List Str) (ws : List Run) (n : Nat), psR ws n (l ++ m) = psR ws n l ++ psR (plA ws n l) (n + l.length) m
  | [], m, ws, n => rfl
  | k :: t, m, ws, n => by
    show plP ws k n ++ psR (plS ws k n) (n + 1) (t ++ m) = (plP ws k n ++ psR (plS ws k n) (n + 1) t) ++ psR (plA (plS ws k n) (n + 1) t) (n + (k :: t).length) m
    rw [psR_app t m, List.length_cons, List.append_assoc, show n + 1 + t.length = n + (t.length + 1) by omega]
theorem ps_same : ∀ (c : Nat) (ws : List Run) (n : Nat) (k : Str), (∀ r ∈ ws, r.1 = k) → psR ws n (List.replicate c k) = []
  | 0, _, _, _, _ => rfl
  | c + 1, ws, n, k, h => by
    have e : plS ws k n = ws ++ [(k, (n : Int))] ∧ plP ws k n = [] := by
      cases ws with
      | nil => exact ⟨rfl, rfl⟩
      | cons r t => exact ⟨if_pos (h r (List.mem_cons_self ..)), if_pos (h r (List.mem_cons_self ..))⟩
    show plP ws k n ++ psR (plS ws k n) (n + 1) (List.replicate c k) = []
    rw [e.1, e.2, ps_same c _ (n + 1) k (fun r hr => by
      rcases List.mem_append.mp hr with z | z
      · exact h r z
      · rw [List.mem_singleton.mp z])]
    rfl
theorem ps_other : ∀ (c : Nat) (ws : List Run) (n : Nat) (k : Str), (∀ r ∈ ws, r.1 ≠ k) → psR ws n (List.replicate c k) = zpL ((psW ws).take c) (n : Int)
  | 0, ws, n, k, _ => rfl
  | c + 1, [], n, k, _ => by
    rw [ps_same (c + 1) [] n k (fun r h => by cases h)]
    rfl
  | c + 1, r :: t, n, k, h => by
    have hr := h r (List.mem_cons_self ..)
    have e1 : plS (r :: t) k n = t := if_neg hr
    have e2 : plP (r :: t) k n = [(r.2, (n : Int))] := if_neg hr
    show plP (r :: t) k n ++ psR (plS (r :: t) k n) (n + 1) (List.replicate c k) = (r.2, (n : Int)) :: zpL ((psW t).take c) ((n : Int) + 1)
    rw [e1, e2, ps_other c t (n + 1) k fun x hx => h x (List.mem_cons_of_mem _ hx)]
    rfl
theorem pairs_run {ws : List Run} {R : List Rg} {n : Nat} {r : Run} {b : Int} (u : Uni ws) (fl : flR R = psW ws) (g : Gd R b) (c1 : 1 ≤ r.2) : flB (brR R (n : Int) (leavR (toldR ws) r.1 r.2)) = psR ws n (List.replicate r.2.toNat r.1) := by
  cases ws with
  | nil =>
    rw [ps_same _ [] n r.1 (fun r h => by cases h), fl_br g (by show (0 : Int) ≤ 0; omega)]
    rfl
  | cons y t =>
    by_cases e : y.1 = r.1
    · have all : ∀ x ∈ y :: t, x.1 = r.1 := fun x hx => (u x hx y (List.mem_cons_self ..)).trans e
      have lv : leavR (toldR (y :: t)) r.1 r.2 = 0 := if_pos e
      rw [lv, ps_same _ _ n r.1 all, fl_br g (Int.le_refl _)]
      rfl
    · have all : ∀ x ∈ y :: t, x.1 ≠ r.1 := fun x hx z => e ((u y (List.mem_cons_self ..) x hx).trans z)
      have lv : leavR (toldR (y :: t)) r.1 r.2 = if r.2 < ((y :: t).length : Int) then r.2 else ((y :: t).length : Int) := if_neg e
      have lp : (psW (y :: t)).length = (y :: t).length := List.length_map _
      rw [ps_other _ _ n r.1 all, lv]
      by_cases q : r.2 < ((y :: t).length : Int)
      · rw [if_pos q, fl_br g (by omega), fl]
      · rw [if_neg q, fl_br g (by omega), fl, List.take_of_length_le (by omega), List.take_of_length_le (by omega)]
theorem all_pairs : ∀ (rs : List Run) (ws : List Run) (R : List Rg) (n : Nat) (B : List Blk), Uni ws → flR R = psW ws → Gd R (n : Int) → (∀ r ∈ rs, 1 ≤ r.2) → Alt rs → (∀ l, R.getLast? = some l → l.2 = (n : Int) - 1 → ∀ x r, toldR ws = some x → rs.head? = some r → x.1 ≠ r.1) → PosB B →
    flB (boR rs (toldR ws) (n : Int) R B) = flB B ++ psR ws n (itR rs) ∧ PosB (boR rs (toldR ws) (n : Int) R B)
  | [], ws, R, n, B, _, _, _, _, _, _, hB => by
    refine ⟨?_, hB⟩
    show flB B = flB B ++ []
    rw [List.append_nil]
  | r :: t, ws, R, n, B, u, fl, g, k, alt, bd, hB => by
    have c1 := k r (List.mem_cons_self ..)
    obtain ⟨h1, h2, h3⟩ := one_run (r := r) u fl g c1 fun l hl hz x hx => bd l hl hz x r hx rfl
    obtain ⟨a1, a2⟩ := fl_adds (brR R (n : Int) (leavR (toldR ws) r.1 r.2)) B hB (pos_brR _ _ _)
    rw [pairs_run u fl g c1] at a1
    have e : itR (r :: t) = List.replicate r.2.toNat r.1 ++ itR t := rfl
    have cn : ((n + r.2.toNat : Nat) : Int) = (n : Int) + r.2 := by omega
    have told' : toldR (plA ws n (List.replicate r.2.toNat r.1)) = stepR (toldR ws) r.1 r.2 := by
      have nn : PosO (toldR ws) := by
        intro x hx
        cases ws with
        | nil => cases hx
        | cons y t =>
          cases hx
          show 1 ≤ (((y :: t).length : Nat) : Int)
          rw [List.length_cons]
          omega
      obtain ⟨c, hc⟩ : ∃ c : Nat, r.2.toNat = c + 1 := ⟨r.2.toNat - 1, by omega⟩
      rw [told_plA _ _ _ u, hc, it_step c _ _ nn, show (c : Int) + 1 = r.2 by omega]
    have ih := all_pairs t (plA ws n (List.replicate r.2.toNat r.1)) _ (n + r.2.toNat) _ (uni_plA _ _ _ u) h1 (by rw [cn]; exact h2) (fun x hx => k x (List.mem_cons_of_mem _ hx)) (fun i x y hx hy => alt (i + 1) x y hx hy) (fun l hl hz x r' hx hr' => by
      have ex := h3 l hl (by omega) x hx
      rw [ex]
      refine alt 0 r r' rfl ?_
      cases t with
      | nil => cases hr'
      | cons y s => exact hr') a2
    rw [cn, told', a1] at ih
    rw [e, psR_app, List.length_replicate, ← List.append_assoc]
    exact ih
theorem whole_pairs {rs : List Run} (k : ∀ r ∈ rs, 1 ≤ r.2) (a : Alt rs) : flB (blR rs) = psR [] 0 (itR rs) ∧ PosB (blR rs) := by
  obtain ⟨h1, h2⟩ := all_pairs rs [] [] 0 [] (fun x hx => by cases hx) rfl trivial k a (fun l hl => by cases hl) (fun x hx => by cases hx)
  exact ⟨h1, h2⟩
/-! ### every position once -/
theorem ps_perm : ∀ (ks : List Str) (ws : List Run) (n : Nat), ((psR ws n ks).map (·.1) ++ ((psR ws n ks).map (·.2) ++ psW (plA ws n ks))).Perm (psW ws ++ posL (n : Int) ks.length)
  | [], ws, n => by
    show (([] : List Int) ++ ([] ++ psW ws)).Perm (psW ws ++ [])
    rw [List.append_nil]
    exact .refl _
  | k :: t, ws, n => by
    have ih := ps_perm t (plS ws k n) (n + 1)
    have eL : posL (n : Int) (k :: t).length = (n : Int) :: posL ((n + 1 : Nat) : Int) t.length := rfl
    rw [eL]
    cases ws with
    | nil => exact ih
    | cons r u =>
      by_cases e : r.1 = k
      · have e1 : plS (r :: u) k n = (r :: u) ++ [(k, (n : Int))] := if_pos e
        have e2 : psR (r :: u) n (k :: t) = psR (plS (r :: u) k n) (n + 1) t := by
          show plP (r :: u) k n ++ _ = _
          rw [show plP (r :: u) k n = [] from if_pos e]
          rfl
        rw [e2]
        show (_ ++ (_ ++ psW (plA (plS (r :: u) k n) (n + 1) t))).Perm _
        have e3 : psW (plS (r :: u) k n) ++ posL ((n + 1 : Nat) : Int) t.length = psW (r :: u) ++ (n : Int) :: posL ((n + 1 : Nat) : Int) t.length := by
          rw [e1]
          unfold psW
          rw [List.map_append, List.append_assoc]
          rfl
        rw [← e3]
        exact ih
      · have e1 : plS (r :: u) k n = u := if_neg e
        have e2 : psR (r :: u) n (k :: t) = (r.2, (n : Int)) :: psR (plS (r :: u) k n) (n + 1) t := by
          show plP (r :: u) k n ++ _ = _
          rw [show plP (r :: u) k n = [(r.2, (n : Int))] from if_neg e]
          rfl
        rw [e2]
        show (_ ++ (_ ++ psW (plA (plS (r :: u) k n) (n + 1) t))).Perm _
        rw [e1] at ih ⊢
        rw [List.map_cons, List.map_cons]
        show (r.2 :: ((psR u (n + 1) t).map (·.1) ++ ((n : Int) :: ((psR u (n + 1) t).map (·.2) ++ psW (plA u (n + 1) t))))).Perm (r.2 :: (psW u ++ (n : Int) :: posL ((n + 1 : Nat) : Int) t.length))
        exact .cons _ (List.perm_middle.trans ((List.Perm.cons _ ih).trans List.perm_middle.symm))
theorem posL_ge : ∀ (n : Nat) (a : Int), ∀ x ∈ posL a n, a ≤ x ∧ x < a + (n : Int)
  | 0, _, x, h => by cases h
  | n + 1, a, x, h => by
    rcases List.mem_cons.mp (show x ∈ a :: posL (a + 1) n from h) with z | z
    · omega
    · have := posL_ge n (a + 1) x z
      omega
theorem posL_nodup : ∀ (n : Nat) (a : Int), (posL a n).Nodup
  | 0, _ => List.nodup_nil
  | n + 1, a => by
    refine List.nodup_cons.mpr ⟨fun h => ?_, posL_nodup n (a + 1)⟩
    have := posL_ge n (a + 1) a h
    omega
theorem ps_nodup (ks : List Str) : ((psR [] 0 ks).map (·.1) ++ ((psR [] 0 ks).map (·.2) ++ psW (plA [] 0 ks))).Nodup := by
  have h := ps_perm ks [] 0
  exact h.symm.nodup (posL_nodup _ _)
theorem ps_count (ks : List Str) : 2 * (psR [] 0 ks).length + (plA [] 0 ks).length = ks.length := by
  have h := (ps_perm ks [] 0).length_eq
  rw [List.length_append, List.length_append, List.length_map, List.length_map, List.length_append, posL_len] at h
  have e : (psW (plA [] 0 ks)).length = (plA [] 0 ks).length := List.length_map _
  have e2 : (psW ([] : List Run)).length = 0 := rfl
  omega
theorem ps_snd : ∀ (ks : List Str) (ws : List Run) (n : Nat), ∀ p ∈ psR ws n ks, (n : Int) ≤ p.2 ∧ p.2 < (n : Int) + (ks.length : Int)
  | [], _, _, p, h => by cases h
  | k :: t, ws, n, p, h => by
    rw [List.length_cons]
    rcases List.mem_append.mp (show p ∈ plP ws k n ++ psR (plS ws k n) (n + 1) t from h) with z | z
    · have e : p.2 = (n : Int) := by
        cases ws with
        | nil => cases z
        | cons r u =>
          have z : p ∈ (if r.1 = k then [] else [(r.2, (n : Int))]) := z
          by_cases c : r.1 = k
          · rw [if_pos c] at z
            cases z
          · rw [if_neg c] at z
            rw [List.mem_singleton.mp z]
      omega
    · have := ps_snd t _ (n + 1) p z
      omega
theorem ps_filter (ks : List Str) (m : Nat) (h : m ≤ ks.length) : (psR [] 0 ks).filter (fun p => decide (p.2 < (m : Int))) = psR [] 0 (ks.take m) := by
  have e : psR [] 0 ks = psR [] 0 (ks.take m) ++ psR (plA [] 0 (ks.take m)) m (ks.drop m) := by
    have := psR_app (ks.take m) (ks.drop m) [] 0
    rw [List.take_append_drop, List.length_take, Nat.zero_add, Nat.min_eq_left h] at this
    exact this
  rw [e, List.filter_append]
  have f1 : (psR [] 0 (ks.take m)).filter (fun p => decide (p.2 < (m : Int))) = psR [] 0 (ks.take m) := by
    refine List.filter_eq_self.mpr fun p hp => decide_eq_true ?_
    have := ps_snd _ _ _ p hp
    rw [List.length_take] at this
    omega
  have f2 : (psR (plA [] 0 (ks.take m)) m (ks.drop m)).filter (fun p => decide (p.2 < (m : Int))) = [] := by
    refine List.filter_eq_nil_iff.mpr fun p hp z => ?_
    have := ps_snd _ _ _ p hp
    have := of_decide_eq_true z
    omega
  rw [f1, f2, List.append_nil]
theorem map_inj {α β : Type} {f : α → β} : ∀ {l : List α}, (l.map f).Nodup → ∀ {a b : α}, a ∈ l → b ∈ l → f a = f b → a = b
  | x :: t, h, a, b, ha, hb, e => by
    have h := List.nodup_cons.mp (show (f x :: t.map f).Nodup from h)
    rcases List.mem_cons.mp ha with h1 | h1
    · rcases List.mem_cons.mp hb with h2 | h2
      · rw [h1, h2]
      · exact absurd (List.mem_map.mpr ⟨b, h2, by rw [← e, h1]⟩) h.1
    · rcases List.mem_cons.mp hb with h2 | h2
      · exact absurd (List.mem_map.mpr ⟨a, h1, by rw [e, h2]⟩) h.1
      · exact map_inj h.2 h1 h2 e
/-- each position stands in one pair at most -/
structure U (P : List Pr) : Prop where
  fst : ∀ p ∈ P, ∀ q ∈ P, p.1 = q.1 → p = q
  snd : ∀ p ∈ P, ∀ q ∈ P, p.2 = q.2 → p = q
  dis : ∀ p ∈ P, ∀ q ∈ P, p.1 ≠ q.2
theorem u_ps (ks : List Str) : U (psR [] 0 ks) := by
  have h := ps_nodup ks
  obtain ⟨h1, h2, h3⟩ := List.nodup_append.mp h
  obtain ⟨h4, _, _⟩ := List.nodup_append.mp h2
  refine ⟨fun p hp q hq e => map_inj h1 hp hq e, fun p hp q hq e => map_inj h4 hp hq e, fun p hp q hq e => ?_⟩
  exact h3 _ (List.mem_map.mpr ⟨p, hp, rfl⟩) _ (List.mem_append.mpr (.inl (List.mem_map.mpr ⟨q, hq, rfl⟩))) e
theorem mem_zp : ∀ (n : Nat) (a b : Int) (p : Pr), p ∈ zpL (posL a n) b ↔ a ≤ p.1 ∧ p.1 < a + (n : Int) ∧ p.2 = b + p.1 - a
  | 0, a, b, p => by
    constructor
    · intro h
      cases h
    · intro h
      omega
  | n + 1, a, b, p => by
    have ih := mem_zp n (a + 1) (b + 1) p
    show p ∈ (a, b) :: zpL (posL (a + 1) n) (b + 1) ↔ _
    rw [List.mem_cons, ih]
    constructor
    · rintro (h | h)
      · rw [h]
        show a ≤ a ∧ a < a + ((n + 1 : Nat) : Int) ∧ b = b + a - a
        omega
      · omega
    · intro h
      by_cases c : p.1 = a
      · exact .inl (Prod.ext c (by show p.2 = b; omega))
      · exact .inr (by omega)
theorem mem_fl {x : Blk} (h : 0 < x.2.2) (p : Pr) : p ∈ flX x ↔ x.1 ≤ p.1 ∧ p.1 < x.1 + x.2.2 ∧ p.2 = x.2.1 + p.1 - x.1 := by
  unfold flX
  rw [mem_zp, show ((x.2.2.toNat : Nat) : Int) = x.2.2 by omega]
theorem pg_first : ∀ (B : List Blk) (p : Pr), PosB B → U (flB B) → p ∈ flB B → pgR B p.1 = some p.2
  | [], p, _, _, h => by cases h
  | x :: t, p, hB, u, h => by
    have hx := hB x (List.mem_cons_self ..)
    have mx := mem_fl hx
    show (if x.1 ≤ p.1 ∧ p.1 < x.1 + x.2.2 then some (x.2.1 + p.1 - x.1) else if x.2.1 ≤ p.1 ∧ p.1 < x.2.1 + x.2.2 then some (x.1 + p.1 - x.2.1) else pgR t p.1) = _
    by_cases c1 : x.1 ≤ p.1 ∧ p.1 < x.1 + x.2.2
    · rw [if_pos c1]
      have m : ((p.1, x.2.1 + p.1 - x.1) : Pr) ∈ flB (x :: t) := List.mem_append.mpr (.inl ((mx _).mpr ⟨c1.1, c1.2, rfl⟩))
      rw [← u.fst _ m _ h rfl]
    · rw [if_neg c1]
      by_cases c2 : x.2.1 ≤ p.1 ∧ p.1 < x.2.1 + x.2.2
      · have m : ((x.1 + p.1 - x.2.1, p.1) : Pr) ∈ flB (x :: t) := List.mem_append.mpr (.inl ((mx _).mpr ⟨by show x.1 ≤ x.1 + p.1 - x.2.1; omega, by show x.1 + p.1 - x.2.1 < _; omega, by show p.1 = x.2.1 + (x.1 + p.1 - x.2.1) - x.1; omega⟩))
        exact absurd rfl (u.dis _ h _ m)
      · rw [if_neg c2]
        rcases List.mem_append.mp (show p ∈ flX x ++ flB t from h) with z | z
        · have := (mx p).mp z
          exact absurd ⟨this.1, this.2.1⟩ c1
        · exact pg_first t p (fun y hy => hB y (List.mem_cons_of_mem _ hy)) ⟨fun a ha b hb => u.fst a (List.mem_append.mpr (.inr ha)) b (List.mem_append.mpr (.inr hb)), fun a ha b hb => u.snd a (List.mem_append.mpr (.inr ha)) b (List.mem_append.mpr (.inr hb)), fun a ha b hb => u.dis a (List.mem_append.mpr (.inr ha)) b (List.mem_append.mpr (.inr hb))⟩ z
theorem pg_second : ∀ (B : List Blk) (p : Pr), PosB B → U (flB B) → p ∈ flB B → pgR B p.2 = some p.1
  | [], p, _, _, h => by cases h
  | x :: t, p, hB, u, h => by
    have hx := hB x (List.mem_cons_self ..)
    have mx := mem_fl hx
    show (if x.1 ≤ p.2 ∧ p.2 < x.1 + x.2.2 then some (x.2.1 + p.2 - x.1) else if x.2.1 ≤ p.2 ∧ p.2 < x.2.1 + x.2.2 then some (x.1 + p.2 - x.2.1) else pgR t p.2) = _
    by_cases c1 : x.1 ≤ p.2 ∧ p.2 < x.1 + x.2.2
    · have m : ((p.2, x.2.1 + p.2 - x.1) : Pr) ∈ flB (x :: t) := List.mem_append.mpr (.inl ((mx _).mpr ⟨c1.1, c1.2, rfl⟩))
      exact absurd rfl (u.dis _ m _ h)
    · rw [if_neg c1]
      by_cases c2 : x.2.1 ≤ p.2 ∧ p.2 < x.2.1 + x.2.2
      · have m : ((x.1 + p.2 - x.2.1, p.2) : Pr) ∈ flB (x :: t) := List.mem_append.mpr (.inl ((mx _).mpr ⟨by show x.1 ≤ x.1 + p.2 - x.2.1; omega, by show x.1 + p.2 - x.2.1 < _; omega, by show p.2 = x.2.1 + (x.1 + p.2 - x.2.1) - x.1; omega⟩))
        rw [if_pos c2, ← u.snd _ m _ h rfl]
      · rw [if_neg c2]
        rcases List.mem_append.mp (show p ∈ flX x ++ flB t from h) with z | z
        · have := (mx p).mp z
          exact absurd ⟨by omega, by omega⟩ c2
        · exact pg_second t p (fun y hy => hB y (List.mem_cons_of_mem _ hy)) ⟨fun a ha b hb => u.fst a (List.mem_append.mpr (.inr ha)) b (List.mem_append.mpr (.inr hb)), fun a ha b hb => u.snd a (List.mem_append.mpr (.inr ha)) b (List.mem_append.mpr (.inr hb)), fun a ha b hb => u.dis a (List.mem_append.mpr (.inr ha)) b (List.mem_append.mpr (.inr hb))⟩ z
theorem pg_none : ∀ (B : List Blk) (m : Int), PosB B → (∀ p ∈ flB B, p.1 ≠ m ∧ p.2 ≠ m) → pgR B m = none
  | [], _, _, _ => rfl
  | x :: t, m, hB, h => by
    have hx := hB x (List.mem_cons_self ..)
    have mx := mem_fl hx
    show (if x.1 ≤ m ∧ m < x.1 + x.2.2 then some (x.2.1 + m - x.1) else if x.2.1 ≤ m ∧ m < x.2.1 + x.2.2 then some (x.1 + m - x.2.1) else pgR t m) = _
    by_cases c1 : x.1 ≤ m ∧ m < x.1 + x.2.2
    · have := h ((m, x.2.1 + m - x.1) : Pr) (List.mem_append.mpr (.inl ((mx _).mpr ⟨c1.1, c1.2, rfl⟩)))
      exact absurd rfl this.1
    · rw [if_neg c1]
      by_cases c2 : x.2.1 ≤ m ∧ m < x.2.1 + x.2.2
      · have := h ((x.1 + m - x.2.1, m) : Pr) (List.mem_append.mpr (.inl ((mx _).mpr ⟨by show x.1 ≤ x.1 + m - x.2.1; omega, by show x.1 + m - x.2.1 < _; omega, by show m = x.2.1 + (x.1 + m - x.2.1) - x.1; omega⟩)))
        exact absurd rfl this.2
      · rw [if_neg c2]
        exact pg_none t m (fun y hy => hB y (List.mem_cons_of_mem _ hy)) fun p hp => h p (List.mem_append.mpr (.inr hp))
end UP

set_option Elab.async false
set_option linter.all false
set_option maxRecDepth 100000
set_option maxHeartbeats 4000000
namespace UP
open PySem PySem.Spec PyProof.Rows L2
/-! ### dicts of pairs -/
theorem merge_hit {k : Key} {v : V} : ∀ (kvs acc : List (Key × V)), (∀ kv ∈ kvs, kv.1 = k → kv.2 = v) → (valV acc k = some v ∨ ∃ kv ∈ kvs, kv.1 = k) → valV (mergeK acc kvs) k = some v
  | [], acc, _, h => by
    rcases h with h | ⟨_, h, _⟩
    · exact h
    · cases h
  | x :: t, acc, hv, h => by
    show valV (mergeK (putK acc x.1 x.2) t) k = some v
    refine merge_hit t _ (fun kv hkv => hv kv (List.mem_cons_of_mem _ hkv)) ?_
    rw [valV_put]
    by_cases e : k = x.1
    · rw [if_pos e]
      exact .inl (by rw [hv x (List.mem_cons_self ..) e.symm])
    · rw [if_neg e]
      rcases h with h | ⟨kv, h, ek⟩
      · exact .inl h
      · rcases List.mem_cons.mp h with z | z
        · rw [z] at ek
          exact absurd ek.symm e
        · exact .inr ⟨kv, z, ek⟩
theorem merge_miss {k : Key} : ∀ (kvs acc : List (Key × V)), (∀ kv ∈ kvs, kv.1 ≠ k) → valV (mergeK acc kvs) k = valV acc k
  | [], acc, _ => rfl
  | x :: t, acc, hv => by
    show valV (mergeK (putK acc x.1 x.2) t) k = _
    rw [merge_miss t _ fun kv hkv => hv kv (List.mem_cons_of_mem _ hkv), valV_put, if_neg fun z => hv x (List.mem_cons_self ..) z.symm]
def kvP (P : List Pr) : List (Key × V) := P.map (fun p => (Sum.inl p.1, V.int p.2)) ++ P.map (fun p => (Sum.inl p.2, V.int p.1))
theorem mem_kvP {P : List Pr} {kv : Key × V} (h : kv ∈ kvP P) : ∃ p ∈ P, kv = (Sum.inl p.1, V.int p.2) ∨ kv = (Sum.inl p.2, V.int p.1) := by
  rcases List.mem_append.mp h with z | z
  · obtain ⟨p, hp, e⟩ := List.mem_map.mp z
    exact ⟨p, hp, .inl e.symm⟩
  · obtain ⟨p, hp, e⟩ := List.mem_map.mp z
    exact ⟨p, hp, .inr e.symm⟩
theorem inlI {a b : Int} (h : (Sum.inl a : Key) = Sum.inl b) : a = b := Sum.inl.inj h
/-- what the dict of the pairs says of a position -/
theorem dict_pairs {B : List Blk} {P : List Pr} (m : Int) (hB : PosB B) (e : flB B = P) (u : U P) : (valV (mergeK [] (kvP P)) (Sum.inl m)).getD .non = oI (pgR B m) := by
  subst e
  by_cases h1 : ∃ p ∈ flB B, p.1 = m
  · obtain ⟨p, hp, em⟩ := h1
    rw [← em, pg_first B p hB u hp, merge_hit (v := .int p.2) (kvP (flB B)) [] (fun kv hkv ek => ?_) (.inr ⟨(Sum.inl p.1, V.int p.2), List.mem_append.mpr (.inl (List.mem_map.mpr ⟨p, hp, rfl⟩)), rfl⟩)]
    · rfl
    · obtain ⟨q, hq, z | z⟩ := mem_kvP hkv
      · rw [z] at ek
        rw [z, u.fst q hq p hp (inlI ek)]
      · rw [z] at ek
        exact absurd (inlI ek).symm (u.dis p hp q hq)
  · by_cases h2 : ∃ p ∈ flB B, p.2 = m
    · obtain ⟨p, hp, em⟩ := h2
      rw [← em, pg_second B p hB u hp, merge_hit (v := .int p.1) (kvP (flB B)) [] (fun kv hkv ek => ?_) (.inr ⟨(Sum.inl p.2, V.int p.1), List.mem_append.mpr (.inr (List.mem_map.mpr ⟨p, hp, rfl⟩)), rfl⟩)]
      · rfl
      · obtain ⟨q, hq, z | z⟩ := mem_kvP hkv
        · rw [z] at ek
          exact absurd (inlI ek) (u.dis q hq p hp)
        · rw [z] at ek
          rw [z, u.snd q hq p hp (inlI ek)]
    · have no : ∀ p ∈ flB B, p.1 ≠ m ∧ p.2 ≠ m := fun p hp => ⟨fun z => h1 ⟨p, hp, z⟩, fun z => h2 ⟨p, hp, z⟩⟩
      rw [pg_none B m hB no, merge_miss (kvP (flB B)) [] fun kv hkv ek => ?_]
      · rfl
      · obtain ⟨q, hq, z | z⟩ := mem_kvP hkv
        · rw [z] at ek
          exact (no q hq).1 (inlI ek)
        · rw [z] at ek
          exact (no q hq).2 (inlI ek)
/-! ### the number of pairs -/
def pcR (rs : List Run) (m : Int) : Int := (m - numR (stR (cutR 0 m 0 rs) none)) / 2
theorem pos_none : PosO none := fun r h => by cases h
theorem pc_at {rs : List Run} {m : Nat} (k : ∀ r ∈ rs, 1 ≤ r.2) (h : m ≤ (itR rs).length) : pcR rs (m : Int) = ((psR [] 0 ((itR rs).take m)).length : Int) := by
  have e1 := at_moment (m := m) pos_none k
  have e2 := ps_count ((itR rs).take m)
  rw [List.length_take, Nat.min_eq_left h] at e2
  unfold pcR
  rw [e1, told_len]
  show ((m : Int) - ((plA [] 0 ((itR rs).take m)).length : Int)) / 2 = _
  omega
theorem dt_int {H : Hp} {n : Nat} {i : Int} : Dt H n (.int i) (.int i) := by
  cases n with
  | zero => exact .inr (.inr (.inl ⟨_, rfl, rfl⟩))
  | succ m => exact .inl (.inr (.inr (.inl ⟨_, rfl, rfl⟩)))
theorem dt_oI {H : Hp} {n : Nat} (z : Option Int) : ∃ d, Dt H n (oI z) d := by
  cases z with
  | none =>
    cases n with
    | zero => exact ⟨_, .inl ⟨rfl, rfl⟩⟩
    | succ m => exact ⟨_, .inl (.inl ⟨rfl, rfl⟩)⟩
  | some i => exact ⟨_, dt_int⟩
theorem dt_two {H : Hp} {a : Addr} {i j : Int} (h : H a = some (.lst [.int i, .int j])) : Dt H 2 (.ref a) (.list [.int i, .int j]) := .inr (.inl ⟨a, _, _, rfl, h, rfl, .cons dt_int (.cons dt_int .nil), Nat.le_of_ble_eq_true rfl⟩)
section
variable {P : Program} {w : World} {K : PySem.W.Frag} {mg : Str → Option Value} {base : Heap}
/-! pair_count: slots 0:sequence 1:moment 2:runs 3:waiting -/
abbrev s_pair_count : Stmt := topS 45
theorem sc_pair_count : FnScope ["sequence", "moment", "runs", "waiting"] ["sequence", "moment"] (defScope s_pair_count) := ⟨rfl, rfl, rfl, by decide +kernel, rfl, by decide +kernel, by decide +kernel⟩
def sp_pair_count : Sp := fun vs H Q _ => ∃ (av : V) (rs : List Run) (mv : V) (m : Int), vs = [av, mv] ∧ RunsG H av rs ∧ SeqOk rs ∧ ((mv = .non ∧ m = lenR rs) ∨ mv = .int m) ∧ 0 ≤ m ∧ m ≤ lenR rs ∧ ∀ H', Same H H' → Q (.int (pcR rs m)) H'
theorem ok_pair_count (D : DfD K mg "pair_count" s_pair_count [.non]) (G_checked_runs : Has P w K mg base 5 "checked_runs" ["sequence"] sp_checked_runs) (G_length_of : Has P w K mg base 1 "length_of" ["runs"] sp_length_of) (G_check_moment : Has P w K mg base 3 "check_moment" ["runs", "moment"] sp_check_moment)
    (G_cut : Has P w K mg base 1 "cut" ["runs", "start", "length"] sp_cut) (G_state_after_runs : Has P w K mg base 3 "state_after_runs" ["runs", "state"] sp_state_after_runs) (G_waiting_number : Has P w K mg base 1 "waiting_number" ["state"] sp_waiting_number) :
    HasD P w K mg base 6 "pair_count" ["sequence", "moment"] 1 "moment" sp_pair_count := by
  refine has_ofD D sc_pair_count rfl (fun _ _ _ _ _ _ _ us its hl h1 => match us, hl, its, h1 with | [_, _], _, [_], _ => ⟨_, rfl, rfl⟩) (fun _ _ _ _ _ _ _ us its hl h1 => match us, hl, its, h1 with | [_], _, [_], _ => ⟨_, rfl, rfl⟩) (fun _ _ _ _ _ _ _ us its v hl h1 => match us, hl, its, h1 with | [_], _, [_], _ => ⟨_, rfl, rfl⟩) (fun vs H Q E h => ?_) (fun f cdv A outer s₀ H vs Q E hr h => ?_)
  · obtain ⟨a, rs, _, _, rfl, _⟩ := h
    rfl
  · obtain ⟨av, rs, mv, m, rfl, hR, ok, hm, m0, m1, q⟩ := h
    have l4 : rs.length ≤ 1000 := by have := ok.1; omega
    refine ⟨_, (pss_cons (ps_set (i := 2) sc_pair_count.nd rfl (by first | exact Or.inl rfl | exact Or.inr rfl) (pe_callH G_checked_runs (hr.mono (by omega)) (by rfl) (pa_cons (pv 0) pa_nil)))
    (C8.pss_cut (ps_if (pt_cmpR op_isN (pv 1) pe_non (nomark _)) (pss_one (ps_set (i := 1) sc_pair_count.nd rfl (by first | exact Or.inl rfl | exact Or.inr rfl) (pe_callH G_length_of (hr.mono (by omega)) (by rfl) (pa_cons (pv 2) pa_nil)))) pss_nil)
    (pss_cons (ps_expr (pe_callH G_check_moment (hr.mono (by omega)) (by rfl) (pa_cons (pv 2) (pa_cons (pv 1) pa_nil))))
    (pss_cons (ps_set (i := 3) sc_pair_count.nd rfl (by first | exact Or.inl rfl | exact Or.inr rfl) (pe_callH G_waiting_number (hr.mono (by omega)) (by rfl) (pa_cons (pe_callH G_state_after_runs (hr.mono (by omega)) (by rfl) (pa_cons (pe_callH G_cut (hr.mono (by omega)) (by rfl) (pa_cons (pv 2) (pa_cons pe_int (pa_cons (pv 1) pa_nil)))) (pa_cons pe_non pa_nil))) pa_nil)))
    (pss_one (ps_ret (pe_op op_fdiv (pe_op op_sub (pv 1) (pv 3)) pe_int))))))), ?_⟩
    refine ⟨_, rfl, av, rs, rfl, hR, ok, fun H1 p s1 np hp => ?_⟩
    refine ⟨fun σ' H' => σ' = [some av, some (.int m), some (.ref p), none] ∧ Same H1 H', ?_, fun σ' H2 hM => ?_⟩
    · rcases hm with ⟨rfl, rfl⟩ | rfl
      · exact ⟨_, rfl, rfl, _, rfl, iteP rfl ⟨_, rfl, p, rs, rfl, hp, l4, fun H2 s2 => ⟨rfl, s2⟩⟩⟩
      · exact ⟨_, rfl, rfl, _, rfl, iteN rfl ⟨rfl, Same.refl _⟩⟩
    · obtain ⟨rfl, s2⟩ := hM
      refine ⟨_, rfl, _, rfl, p, rs, m, rfl, hp.same s2, l4, m0, m1, fun H3 s3 => ?_⟩
      refine ⟨_, rfl, _, rfl, p, rs, 0, m, rfl, (hp.same s2).same s3, l4, fun H4 p4 s4 n4 h4 => ?_⟩
      rw [Int.zero_add] at h4
      refine ⟨p4, _, .non, none, rfl, h4, cutR_pos, rfl, fun H5 v5 s5 h5 => ⟨v5, _, rfl, h5, ?_⟩⟩
      exact ⟨_, rfl, _, rfl, _, _, rfl, rfl, _, _, rfl, rfl, ⟨by decide, by decide⟩, q _ (s1.trans (s2.trans (s3.trans (s4.trans s5))))⟩
end
end UP

set_option Elab.async false
set_option linter.all false
set_option maxRecDepth 100000
set_option maxHeartbeats 4000000
namespace UP
open PySem PySem.Spec PyProof.Rows L2
def cntB (B : List Blk) : Int := (B.map (·.2.2)).sum
theorem cntB_cons (x : Blk) (t : List Blk) : cntB (x :: t) = x.2.2 + cntB t := by
  unfold cntB
  rw [List.map_cons, List.sum_cons]
theorem zpL_len : ∀ (l : List Int) (b : Int), (zpL l b).length = l.length
  | [], _ => rfl
  | _ :: t, b => congrArg Nat.succ (zpL_len t (b + 1))
theorem flX_len (x : Blk) : (flX x).length = x.2.2.toNat := by
  unfold flX
  rw [zpL_len, posL_len]
theorem cnt_fl : ∀ (B : List Blk), PosB B → cntB B = ((flB B).length : Int)
  | [], _ => rfl
  | x :: t, h => by
    have hx := h x (List.mem_cons_self ..)
    rw [cntB_cons, cnt_fl t fun y hy => h y (List.mem_cons_of_mem _ hy)]
    show _ = ((flX x ++ flB t).length : Int)
    rw [List.length_append, flX_len]
    omega
theorem zp_get : ∀ (n : Nat) (a b : Int) (i : Nat), i < n → (zpL (posL a n) b)[i]? = some (a + (i : Int), b + (i : Int))
  | 0, _, _, _, h => by omega
  | n + 1, a, b, 0, _ => by
    show some (a, b) = _
    rw [show a + ((0 : Nat) : Int) = a by omega, show b + ((0 : Nat) : Int) = b by omega]
  | n + 1, a, b, i + 1, h => by
    show (zpL (posL (a + 1) n) (b + 1))[i]? = _
    rw [zp_get n (a + 1) (b + 1) i (by omega), show a + 1 + (i : Int) = a + ((i + 1 : Nat) : Int) by omega, show b + 1 + (i : Int) = b + ((i + 1 : Nat) : Int) by omega]
section
variable {P : Program} {w : World} {K : PySem.W.Frag} {mg : Str → Option Value} {base : Heap}
/-! pairs_in: slots 0:blocks 1:first 2:second 3:count -/
abbrev s_pairs_in : Stmt := topS 42
theorem sc_pairs_in : FnScope ["blocks", "first", "second", "count"] ["blocks"] (defScope s_pairs_in) := ⟨rfl, rfl, rfl, by decide +kernel, rfl, by decide +kernel, by decide +kernel⟩
def sp_pairs_in : Sp := fun vs H Q _ => ∃ (a : Addr) (B : List Blk), vs = [.ref a] ∧ Blks H a B ∧ B.length ≤ 900000 ∧ ∀ H', Same H H' → Q (.int (cntB B)) H'
theorem ok_pairs_in (D : Df K mg "pairs_in" s_pairs_in) (T : Tx mg) : Has P w K mg base 1 "pairs_in" ["blocks"] sp_pairs_in := by
  refine has_of D sc_pairs_in (fun _ _ _ _ _ _ us hl => match us, hl with | [_], _ => rfl) (fun vs H Q E h => ?_) (fun f cdv A outer s H vs Q E hr h => ?_)
  · obtain ⟨v, r, rfl, _⟩ := h
    rfl
  · obtain ⟨a, B, rfl, ⟨xs, hx, hp⟩, l4, q⟩ := h
    have lx : xs.length = B.length := Paired.len hp
    refine ⟨_, (pss_one (ps_ret (pe_callB (cr_sum rfl) (by rfl) T.n_sum (by decide +kernel) (pa_cons (pe_lc (own := [("first", 1), ("second", 2), ("count", 3)]) rfl sc_pairs_in.nd (pi_list (pv 0)) (blkOk_by (N := ["blocks", "first", "second", "count"]) (sc := defScope s_pairs_in) (by decide +kernel)) (fun _ _ _ _ _ => (pg_tupK (K := K) (n := 3) rfl rfl (pgs_cons (pg_name (i := 1) sc_pairs_in.nd rfl (by first | exact Or.inl rfl | exact Or.inr rfl)) (pgs_cons (pg_name (i := 2) sc_pairs_in.nd rfl (by first | exact Or.inl rfl | exact Or.inr rfl)) (pgs_cons (pg_name (i := 3) sc_pairs_in.nd rfl (by first | exact Or.inl rfl | exact Or.inr rfl)) pgs_nil))))) (fun _ _ _ _ _ => pts_nil) (fun _ _ _ _ _ => (pv 3))) pa_nil)))), ?_⟩
    refine ⟨_, rfl, a, rfl, ⟨xs, .of hx⟩, fun L nL => lc_list (K := K) (a := a) (xs := xs) (fun i H' => Same H H' ∧ H' L = some (.lst (((B.map (·.2.2)).take i).map V.int))) ⟨same_upd nL, upd_same⟩ (fun i H' _ p => .of (p.1 _ _ hx)) (fun i x H2 ex p => ?_) (fun H2 p => ?_)⟩
    · obtain ⟨sm, hL⟩ := p
      obtain ⟨r, er, hr1⟩ := Paired.at hp ex
      have hi : i < xs.length := (List.getElem?_eq_some_iff.mp ex).1
      obtain ⟨t, rfl, ht⟩ := BV.same sm hr1
      refine ⟨t, _, rfl, .of ht, rfl, _, _, rfl, _, _, rfl, _, _, rfl, rfl, rfl, yesT ⟨_, rfl, _, hL, ?_, same_grow nL sm, ?_⟩⟩
      · simp only [List.length_map, List.length_take]
        exact small (by omega)
      · rw [upd_same, take_snoc (x := r.2.2) (by rw [List.getElem?_map, er]; rfl), List.map_append]
        rfl
    · refine ⟨L, (B.map (fun r : Blk => r.2.2)), rfl, .of ?_, q H2 p.1⟩
      have := p.2
      rw [List.take_of_length_le (by rw [List.length_map]; omega)] at this
      exact this
/-! pairs_of: slots 0:sequence -/
abbrev s_pairs_of : Stmt := topS 46
theorem sc_pairs_of : FnScope ["sequence"] ["sequence"] (defScope s_pairs_of) := ⟨rfl, rfl, rfl, by decide +kernel, rfl, by decide +kernel, by decide +kernel⟩
def sp_pairs_of : Sp := fun vs H Q _ => ∃ (av : V) (rs : List Run), vs = [av] ∧ RunsG H av rs ∧ SeqOk rs ∧ ∀ H' p, Same H H' → H p = none → Blks H' p (blR rs) → Q (.ref p) H'
theorem ok_pairs_of (D : Df K mg "pairs_of" s_pairs_of) (G_checked_runs : Has P w K mg base 5 "checked_runs" ["sequence"] sp_checked_runs) (G_blocks_of : Has P w K mg base 3 "blocks_of" ["runs"] sp_blocks_of) : Has P w K mg base 6 "pairs_of" ["sequence"] sp_pairs_of := by
  refine has_of D sc_pairs_of (fun _ _ _ _ _ _ us hl => match us, hl with | [_], _ => rfl) (fun vs H Q E h => ?_) (fun f cdv A outer s H vs Q E hr h => ?_)
  · obtain ⟨v, r, rfl, _⟩ := h
    rfl
  · obtain ⟨av, rs, rfl, hR, ok, q⟩ := h
    refine ⟨_, (pss_one (ps_ret (pe_callH G_blocks_of (hr.mono (by omega)) (by rfl) (pa_cons (pe_callH G_checked_runs (hr.mono (by omega)) (by rfl) (pa_cons (pv 0) pa_nil)) pa_nil)))), ?_⟩
    refine ⟨_, rfl, av, rs, rfl, hR, ok, fun H1 p s1 np hp => ?_⟩
    exact ⟨p, rs, rfl, hp, ok.1, (fun r hr => (ok.2.1 r hr).2.1), ok.2.2, fun H2 p2 s2 n2 h2 => q H2 p2 (s1.trans s2) (s1.free n2) h2⟩
/-! nth_pair: slots 0:sequence 1:index 2:blocks 3:at 4:first 5:second 6:count -/
abbrev s_nth_pair : Stmt := topS 47
theorem sc_nth_pair : FnScope ["sequence", "index", "blocks", "at", "first", "second", "count"] ["sequence", "index"] (defScope s_nth_pair) := ⟨rfl, rfl, rfl, by decide +kernel, rfl, by decide +kernel, by decide +kernel⟩
def sp_nth_pair : Sp := fun vs H Q _ => ∃ (av : V) (rs : List Run) (k : Nat) (p : Pr), vs = [av, .int (k : Int)] ∧ RunsG H av rs ∧ SeqOk rs ∧ (flB (blR rs))[k]? = some p ∧ ∀ H' v, Same H H' → PV H' v p → Q v H'
theorem ok_nth_pair (D : Df K mg "nth_pair" s_nth_pair) (G_checked_runs : Has P w K mg base 5 "checked_runs" ["sequence"] sp_checked_runs) (G_blocks_of : Has P w K mg base 3 "blocks_of" ["runs"] sp_blocks_of) (G_pairs_in : Has P w K mg base 1 "pairs_in" ["blocks"] sp_pairs_in)
    (G_is_within : Has P w K mg base 2 "is_within" ["value", "low", "high"] sp_is_within) : Has P w K mg base 6 "nth_pair" ["sequence", "index"] sp_nth_pair := by
  refine has_of D sc_nth_pair (fun _ _ _ _ _ _ us hl => match us, hl with | [_, _], _ => rfl) (fun vs H Q E h => ?_) (fun f cdv A outer s H vs Q E hr h => ?_)
  · obtain ⟨v, r, _, _, rfl, _⟩ := h
    rfl
  · obtain ⟨av, rs, k, pr, rfl, hR, ok, hk, q⟩ := h
    have pos : ∀ r ∈ rs, 1 ≤ r.2 := fun r hr => (ok.2.1 r hr).2.1
    obtain ⟨_, wb⟩ := whole_pairs pos ok.2.2
    have lb : (blR rs).length ≤ 160000 := by
      refine Nat.le_trans (boR_len rs none 0 [] []) ?_
      have h1 := ok.1
      have h2 := Nat.mul_le_mul h1 h1
      show ([] : List Blk).length + rs.length * (0 + rs.length) ≤ _
      rw [List.length_nil, Nat.zero_add, Nat.zero_add]
      omega
    have hk0 := (List.getElem?_eq_some_iff.mp hk).1
    refine ⟨_, (pss_cons (ps_set (i := 2) sc_nth_pair.nd rfl (by first | exact Or.inl rfl | exact Or.inr rfl) (pe_callH G_blocks_of (hr.mono (by omega)) (by rfl) (pa_cons (pe_callH G_checked_runs (hr.mono (by omega)) (by rfl) (pa_cons (pv 0) pa_nil)) pa_nil)))
    (pss_cons (ps_if (pt_not (pt_val (pe_callH G_is_within (hr.mono (by omega)) (by rfl) (pa_cons (pv 1) (pa_cons pe_int (pa_cons (pe_op op_sub (pe_callH G_pairs_in (hr.mono (by omega)) (by rfl) (pa_cons (pv 2) pa_nil)) pe_int) pa_nil)))))) (pss_one ps_never) pss_nil)
    (pss_cons (ps_set (i := 3) sc_nth_pair.nd rfl (by first | exact Or.inl rfl | exact Or.inr rfl) pe_int)
    (pss_cons (ps_while PassesOwn.never (pt_cmpR op_ge (pv 1) (pe_ix ix_tup (pe_ix ix_list (pv 2) (pv 3) (fun _ _ => rfl)) pe_int (fun _ _ => rfl)) (nomark _))
      (pss_cons (ps_aug (i := 1) sc_nth_pair.nd rfl (by first | exact Or.inl rfl | exact Or.inr rfl) (pe_ix ix_tup (pe_ix ix_list (pv 2) (pv 3) (fun _ _ => rfl)) pe_int (fun _ _ => rfl)) ip_sub)
    (pss_one (ps_aug (i := 3) sc_nth_pair.nd rfl (by first | exact Or.inl rfl | exact Or.inr rfl) pe_int ip_add))))
    (pss_cons (ps_asg (pe_ix ix_list (pv 2) (pv 3) (fun _ _ => rfl)) (pg_tup rfl (pgs_cons (pg_name (i := 4) sc_nth_pair.nd rfl (by first | exact Or.inl rfl | exact Or.inr rfl)) (pgs_cons (pg_name (i := 5) sc_nth_pair.nd rfl (by first | exact Or.inl rfl | exact Or.inr rfl)) (pgs_cons (pg_name (i := 6) sc_nth_pair.nd rfl (by first | exact Or.inl rfl | exact Or.inr rfl)) pgs_nil)))))
    (pss_one (ps_ret (pe_tup (pa_cons (pe_op op_add (pv 4) (pv 1)) (pa_cons (pe_op op_add (pv 5) (pv 1)) pa_nil)))))))))), ?_⟩
    refine ⟨_, rfl, av, rs, rfl, hR, ok, fun H1 p s1 np hp => ?_⟩
    refine ⟨p, rs, rfl, hp, ok.1, pos, ok.2.2, fun H2 p2 s2 n2 h2 => ?_⟩
    have cf := cnt_fl _ wb
    generalize blR rs = B at *
    refine ⟨_, rfl, _, rfl, p2, B, rfl, h2, by omega, fun H3 s3 => ⟨_, _, rfl, rfl, (k : Int), 0, _, rfl, _, rfl, iteN ?_ ?_⟩⟩
    · rw [decide_eq_true (by omega)]
      rfl
    have sA := s1.trans (s2.trans s3)
    obtain ⟨xs, hx, hpr⟩ := h2.same s3
    have lx : xs.length = B.length := Paired.len hpr
    -- the loop
    refine ⟨fun m σ H' => ∃ (j n : Nat), m = B.length - j ∧ σ = [some av, some (.int (n : Int)), some (.ref p2), some (.int (j : Int)), none, none, none] ∧ H' = H3 ∧ (flB (B.drop j))[n]? = some pr, ⟨_, 0, k, rfl, rfl, rfl, hk⟩, fun m σ H' hP => ?_⟩
    obtain ⟨j, n, rfl, rfl, rfl, hn⟩ := hP
    have hj : j < B.length := by
      rcases Nat.lt_or_ge j B.length with z | z
      · exact z
      · rw [List.drop_of_length_le z] at hn
        simp [flB] at hn
    obtain ⟨b, eb⟩ : ∃ b, B[j]? = some b := ⟨_, List.getElem?_eq_getElem hj⟩
    obtain ⟨x, ex, ⟨t, rfl, ht⟩⟩ := Paired.at' hpr eb
    rw [drop_at eb] at hn
    have hb : 0 < b.2.2 := wb b (List.mem_of_getElem? eb)
    have hn : (flX b ++ flB (B.drop (j + 1)))[n]? = some pr := hn
    have at2 : atI [V.int b.1, V.int b.2.1, V.int b.2.2] 2 = some (V.int b.2.2) := rfl
    refine ⟨_, rfl, _, rfl, _, rfl, p2, xs, _, _, rfl, rfl, .of hx, atI_nat ex, t, _, 2, _, rfl, rfl, .of ht, at2, _, _, rfl, rfl, _, rfl, ?_⟩
    by_cases c : b.2.2 ≤ (n : Int)
    · refine iteP (decide_eq_true c) ⟨fun σ' H5 => ∃ n' : Nat, σ' = [some av, some (.int (n' : Int)), some (.ref p2), some (.int ((j + 1 : Nat) : Int)), none, none, none] ∧ H5 = H' ∧ (flB (B.drop (j + 1)))[n']? = some pr, fun σ' H5 z => ?_, ?_⟩
      · obtain ⟨n', e1, e2, e3⟩ := z
        exact ⟨_, by omega, j + 1, n', rfl, e1, e2, e3⟩
      · refine ⟨_, rfl, _, rfl, _, rfl, p2, xs, _, _, rfl, rfl, .of hx, atI_nat ex, t, _, 2, _, rfl, rfl, .of ht, at2, _, _, rfl, rfl, _, rfl, _, _, rfl, rfl, n - b.2.2.toNat, ?_, rfl, ?_⟩
        · show [some av, some (.int ((n : Int) - b.2.2)), some (.ref p2), some (.int ((j : Int) + 1)), none, none, none] = _
          rw [show ((n - b.2.2.toNat : Nat) : Int) = (n : Int) - b.2.2 by omega]
          rfl
        · rw [List.getElem?_append_right (by rw [flX_len]; omega), flX_len] at hn
          exact hn
    · refine iteN (decide_eq_false c) ?_
      rw [List.getElem?_append_left (by rw [flX_len]; omega)] at hn
      have e0 : pr = (b.1 + (n : Int), b.2.1 + (n : Int)) := by
        unfold flX at hn
        rw [zp_get _ _ _ _ (by omega)] at hn
        exact (Option.some.inj hn).symm
      subst e0
      refine ⟨_, rfl, _, rfl, p2, xs, _, _, rfl, rfl, .of hx, atI_nat ex, t, _, rfl, .of ht, rfl, _, _, rfl, _, _, rfl, _, _, rfl, rfl, ?_⟩
      exact ⟨_, rfl, _, rfl, _, _, rfl, rfl, _, rfl, _, rfl, _, _, rfl, rfl, (by show 2 ≤ sizeLine; decide), fun u nn => q _ _ (sA.trans (same_upd nn)) ⟨u, rfl, upd_same⟩⟩
end
end UP

set_option Elab.async false
set_option linter.all false
set_option maxRecDepth 100000
set_option maxHeartbeats 4000000
namespace UP
open PySem PySem.Spec PyProof.Rows L2
/-! ### blocks, pair by pair -/
def addU (B : List Blk) (P : List Pr) : List Blk := P.foldl (fun F p => addB F (p.1, p.2, 1)) B
theorem addB_nil (x : Blk) : addB [] x = [x] := rfl
theorem addB_join {B : List Blk} {l x : Blk} (h : l.1 + l.2.2 = x.1 ∧ l.2.1 + l.2.2 = x.2.1) : addB (B ++ [l]) x = B ++ [(l.1, l.2.1, l.2.2 + x.2.2)] := by
  unfold addB
  rw [List.getLast?_concat, List.dropLast_concat]
  exact if_pos h
theorem addB_new {B : List Blk} {l x : Blk} (h : ¬ (l.1 + l.2.2 = x.1 ∧ l.2.1 + l.2.2 = x.2.1)) : addB (B ++ [l]) x = (B ++ [l]) ++ [x] := by
  unfold addB
  rw [List.getLast?_concat]
  exact if_neg h
theorem add_add (B : List Blk) (a b k : Int) : addB (addB B (a, b, 1)) (a + 1, b + 1, k) = addB B (a, b, 1 + k) := by
  rcases shaped_not (B := B) with e | ⟨B0, l, e⟩
  · subst e
    exact addB_join (B := []) (l := (a, b, 1)) ⟨rfl, rfl⟩
  · subst e
    by_cases c : l.1 + l.2.2 = a ∧ l.2.1 + l.2.2 = b
    · rw [addB_join (x := (a, b, 1)) c, addB_join (x := (a, b, 1 + k)) c, addB_join (x := (a + 1, b + 1, k)) ⟨by show l.1 + (l.2.2 + 1) = a + 1; omega, by show l.2.1 + (l.2.2 + 1) = b + 1; omega⟩]
      show B0 ++ [(l.1, l.2.1, l.2.2 + 1 + k)] = B0 ++ [(l.1, l.2.1, l.2.2 + (1 + k))]
      rw [Int.add_assoc]
    · rw [addB_new (x := (a, b, 1)) c, addB_new (x := (a, b, 1 + k)) c]
      exact addB_join (B := B0 ++ [l]) (l := (a, b, 1)) ⟨rfl, rfl⟩
theorem unit_add : ∀ (c : Nat) (a b : Int) (B : List Blk), addU B (zpL (posL a (c + 1)) b) = addB B (a, b, (c : Int) + 1)
  | 0, a, b, B => rfl
  | c + 1, a, b, B => by
    show addU (addB B (a, b, 1)) (zpL (posL (a + 1) (c + 1)) (b + 1)) = _
    rw [unit_add c, add_add, show (1 : Int) + ((c : Int) + 1) = ((c + 1 : Nat) : Int) + 1 by omega]
theorem addU_app (B : List Blk) (P Q : List Pr) : addU B (P ++ Q) = addU (addU B P) Q := List.foldl_append ..
theorem adds_units : ∀ (xs B : List Blk), PosB xs → addsB B xs = addU B (flB xs)
  | [], _, _ => rfl
  | x :: t, B, h => by
    have hx := h x (List.mem_cons_self ..)
    obtain ⟨c, hc⟩ : ∃ c : Nat, x.2.2.toNat = c + 1 := ⟨x.2.2.toNat - 1, by omega⟩
    show addsB (addB B x) t = addU B (flX x ++ flB t)
    rw [addU_app, adds_units t _ fun y hy => h y (List.mem_cons_of_mem _ hy)]
    congr 1
    unfold flX
    rw [hc, unit_add, show (c : Int) + 1 = x.2.2 by omega]
theorem all_units : ∀ (rs : List Run) (ws : List Run) (R : List Rg) (n : Nat) (B : List Blk), Uni ws → flR R = psW ws → Gd R (n : Int) → (∀ r ∈ rs, 1 ≤ r.2) → Alt rs → (∀ l, R.getLast? = some l → l.2 = (n : Int) - 1 → ∀ x r, toldR ws = some x → rs.head? = some r → x.1 ≠ r.1) →
    boR rs (toldR ws) (n : Int) R B = addU B (psR ws n (itR rs))
  | [], ws, R, n, B, _, _, _, _, _, _ => rfl
  | r :: t, ws, R, n, B, u, fl, g, k, alt, bd => by
    have c1 := k r (List.mem_cons_self ..)
    obtain ⟨h1, h2, h3⟩ := one_run (r := r) u fl g c1 fun l hl hz x hx => bd l hl hz x r hx rfl
    have a1 := adds_units (brR R (n : Int) (leavR (toldR ws) r.1 r.2)) B (pos_brR _ _ _)
    rw [pairs_run u fl g c1] at a1
    have e : itR (r :: t) = List.replicate r.2.toNat r.1 ++ itR t := rfl
    have cn : ((n + r.2.toNat : Nat) : Int) = (n : Int) + r.2 := by omega
    have told' : toldR (plA ws n (List.replicate r.2.toNat r.1)) = stepR (toldR ws) r.1 r.2 := by
      have nn : PosO (toldR ws) := by
        intro x hx
        cases ws with
        | nil => cases hx
        | cons y t =>
          cases hx
          show 1 ≤ (((y :: t).length : Nat) : Int)
          rw [List.length_cons]
          omega
      obtain ⟨c, hc⟩ : ∃ c : Nat, r.2.toNat = c + 1 := ⟨r.2.toNat - 1, by omega⟩
      rw [told_plA _ _ _ u, hc, it_step c _ _ nn, show (c : Int) + 1 = r.2 by omega]
    have ih := all_units t (plA ws n (List.replicate r.2.toNat r.1)) _ (n + r.2.toNat) (addsB B (brR R (n : Int) (leavR (toldR ws) r.1 r.2))) (uni_plA _ _ _ u) h1 (by rw [cn]; exact h2) (fun x hx => k x (List.mem_cons_of_mem _ hx)) (fun i x y hx hy => alt (i + 1) x y hx hy) (fun l hl hz x r' hx hr' => by
      have ex := h3 l hl (by omega) x hx
      rw [ex]
      refine alt 0 r r' rfl ?_
      cases t with
      | nil => cases hr'
      | cons y s => exact hr')
    rw [cn, told'] at ih
    rw [e, psR_app, List.length_replicate, addU_app, ← a1]
    exact ih
theorem whole_units {rs : List Run} (k : ∀ r ∈ rs, 1 ≤ r.2) (a : Alt rs) : blR rs = addU [] (psR [] 0 (itR rs)) :=
  all_units rs [] [] 0 [] (fun x hx => by cases hx) rfl trivial k a (fun l hl => by cases hl)
/-! ### all counts multiplied -/
def scX (t : Int) (x : Blk) : Blk := (x.1 * t, x.2.1 * t, x.2.2 * t)
def scB (t : Int) (B : List Blk) : List Blk := B.map (scX t)
theorem eq_sc {a b t : Int} (ht : 0 < t) : a * t = b * t ↔ a = b :=
  ⟨fun z => Int.le_antisymm ((le_sc ht).mp (by omega)) ((le_sc ht).mp (by omega)), fun z => by rw [z]⟩
theorem addB_sc {t : Int} (ht : 0 < t) (B : List Blk) (x : Blk) : addB (scB t B) (scX t x) = scB t (addB B x) := by
  rcases shaped_not (B := B) with e | ⟨B0, l, e⟩
  · subst e
    rfl
  · subst e
    have e1 : scB t (B0 ++ [l]) = scB t B0 ++ [scX t l] := List.map_append ..
    rw [e1]
    have i1 : (scX t l).1 + (scX t l).2.2 = (scX t x).1 ↔ l.1 + l.2.2 = x.1 := by
      show l.1 * t + l.2.2 * t = x.1 * t ↔ _
      rw [← Int.add_mul]
      exact eq_sc ht
    have i2 : (scX t l).2.1 + (scX t l).2.2 = (scX t x).2.1 ↔ l.2.1 + l.2.2 = x.2.1 := by
      show l.2.1 * t + l.2.2 * t = x.2.1 * t ↔ _
      rw [← Int.add_mul]
      exact eq_sc ht
    by_cases c : l.1 + l.2.2 = x.1 ∧ l.2.1 + l.2.2 = x.2.1
    · rw [addB_join c, addB_join ⟨i1.mpr c.1, i2.mpr c.2⟩]
      show _ = List.map (scX t) (B0 ++ [_])
      rw [List.map_append]
      show scB t B0 ++ [(l.1 * t, l.2.1 * t, l.2.2 * t + x.2.2 * t)] = scB t B0 ++ [(l.1 * t, l.2.1 * t, (l.2.2 + x.2.2) * t)]
      rw [Int.add_mul]
    · rw [addB_new c, addB_new fun z => c ⟨i1.mp z.1, i2.mp z.2⟩]
      show _ = List.map (scX t) ((B0 ++ [l]) ++ [x])
      rw [List.map_append, List.map_append]
      rfl
theorem adds_sc {t : Int} (ht : 0 < t) : ∀ (xs B : List Blk), addsB (scB t B) (scB t xs) = scB t (addsB B xs)
  | [], _ => rfl
  | x :: u, B => by
    show addsB (addB (scB t B) (scX t x)) (scB t u) = scB t (addsB (addB B x) u)
    rw [addB_sc ht, adds_sc ht u]
theorem brP_sc {t : Int} (ht : 0 < t) (p : Rg) (b n : Int) : brP (p.1 * t, p.2 * t + t - 1) (b * t) (n * t) = scB t (brP p b n) := by
  unfold brP
  rw [rm_sc ht]
  by_cases c : 0 < rmR p n
  · rw [if_pos c, if_pos ((pos_sc ht).mpr c)]
    rfl
  · rw [if_neg c, if_neg fun z => c ((pos_sc ht).mp z)]
    rfl
theorem brR_sc {t : Int} (ht : 0 < t) : ∀ (R : List Rg) (b n : Int), brR (scP t R) (b * t) (n * t) = scB t (brR R b n)
  | [], _, _ => rfl
  | p :: u, b, n => by
    show brP (p.1 * t, p.2 * t + t - 1) (b * t) (n * t) ++ brR (scP t u) (b * t + rmR (p.1 * t, p.2 * t + t - 1) (n * t)) (n * t - rmR (p.1 * t, p.2 * t + t - 1) (n * t)) = List.map (scX t) (brP p b n ++ brR u (b + rmR p n) (n - rmR p n))
    rw [brP_sc ht, rm_sc ht, ← Int.sub_mul, ← Int.add_mul, brR_sc ht u, List.map_append]
    rfl
theorem boR_sc {t : Int} (ht : 0 < t) : ∀ (rs : List Run) (st : Option Run) (b : Int) (R : List Rg) (B : List Blk), boR (scR t rs) (scO t st) (b * t) (scP t R) (scB t B) = scB t (boR rs st b R B)
  | [], _, _, _, _ => rfl
  | r :: u, st, b, R, B => by
    show boR (scR t u) (stepR (scO t st) r.1 (r.2 * t)) (b * t + r.2 * t) (wfR (scP t R) (leavR (scO t st) r.1 (r.2 * t)) ++ adP (scO t st) (b * t) (r.1, r.2 * t)) (addsB (scB t B) (brR (scP t R) (b * t) (leavR (scO t st) r.1 (r.2 * t)))) = scB t (boR u (stepR st r.1 r.2) (b + r.2) (wfR R (leavR st r.1 r.2) ++ adP st b r) (addsB B (brR R b (leavR st r.1 r.2))))
    rw [step_sc ht, ← Int.add_mul, leav_sc ht, wfR_sc ht, adP_sc ht, brR_sc ht, adds_sc ht]
    have e : scP t (wfR R (leavR st r.1 r.2)) ++ scP t (adP st b r) = scP t (wfR R (leavR st r.1 r.2) ++ adP st b r) := by
      unfold scP
      rw [List.map_append]
    rw [e, boR_sc ht u]
theorem blR_sc {t : Int} (ht : 0 < t) (rs : List Run) : blR (scR t rs) = scB t (blR rs) := by
  have := boR_sc ht rs none 0 [] []
  rw [Int.zero_mul] at this
  exact this
/-- the blocks of multiplied pairs -/
def lbR (t : Int) (P : List Pr) : List Blk := P.foldl (fun F p => addB F (p.1 * t, p.2 * t, t)) []
theorem lbR_snoc (t : Int) (P : List Pr) (p : Pr) : lbR t (P ++ [p]) = addB (lbR t P) (p.1 * t, p.2 * t, t) := by
  unfold lbR
  rw [List.foldl_append]
  rfl
theorem lbR_sc {t : Int} (ht : 0 < t) (P : List Pr) : lbR t P = scB t (addU [] P) := by
  have gen : ∀ (P : List Pr) (F : List Blk), P.foldl (fun F p => addB F (p.1 * t, p.2 * t, t)) (scB t F) = scB t (addU F P) := by
    intro P
    induction P with
    | nil => intro F; rfl
    | cons p u ih =>
      intro F
      have e := addB_sc ht F (p.1, p.2, 1)
      have e2 : scX t (p.1, p.2, 1) = (p.1 * t, p.2 * t, t) := by
        show (p.1 * t, p.2 * t, 1 * t) = _
        rw [Int.one_mul]
      rw [e2] at e
      show u.foldl (fun F p => addB F (p.1 * t, p.2 * t, t)) (addB (scB t F) (p.1 * t, p.2 * t, t)) = scB t (addU (addB F (p.1, p.2, 1)) u)
      rw [e, ih]
  exact gen P []
theorem lbR_len (t : Int) (P : List Pr) : (lbR t P).length ≤ P.length := by
  have gen : ∀ (P : List Pr) (F : List Blk), (P.foldl (fun F p => addB F (p.1 * t, p.2 * t, t)) F).length ≤ F.length + P.length := by
    intro P
    induction P with
    | nil => intro F; exact Nat.le_refl _
    | cons p u ih =>
      intro F
      have h1 := ih (addB F (p.1 * t, p.2 * t, t))
      have h2 := addB_len F (p.1 * t, p.2 * t, t)
      show (u.foldl (fun F p => addB F (p.1 * t, p.2 * t, t)) (addB F (p.1 * t, p.2 * t, t))).length ≤ _
      rw [List.length_cons]
      omega
  have := gen P []
  rw [List.length_nil, Nat.zero_add] at this
  exact this
theorem lbR_pos {t : Int} (ht : 0 < t) (P : List Pr) : PosB (lbR t P) := by
  have gen : ∀ (P : List Pr) (F : List Blk), PosB F → PosB (P.foldl (fun F p => addB F (p.1 * t, p.2 * t, t)) F) := by
    intro P
    induction P with
    | nil => intro F h; exact h
    | cons p u ih =>
      intro F h
      exact ih _ (fl_add (x := (p.1 * t, p.2 * t, t)) h ht).2
  exact gen P [] (fun x h => by cases h)
theorem whole_lb {rs : List Run} {t : Int} (ht : 0 < t) (k : ∀ r ∈ rs, 1 ≤ r.2) (a : Alt rs) : blR (scR t rs) = lbR t (psR [] 0 (itR rs)) := by
  rw [blR_sc ht, whole_units k a, lbR_sc ht]
/-! ### pairs of a multiplied sequence -/
def exP (t : Int) (P : List Pr) : List Pr := P.flatMap fun p => zpL (posL (p.1 * t) t.toNat) (p.2 * t)
theorem exP_cons (t : Int) (p : Pr) (P : List Pr) : exP t (p :: P) = zpL (posL (p.1 * t) t.toNat) (p.2 * t) ++ exP t P := rfl
theorem exP_app (t : Int) (P Q : List Pr) : exP t (P ++ Q) = exP t P ++ exP t Q := List.flatMap_append ..
theorem ex_zp {t : Int} (ht : 0 < t) : ∀ (c : Nat) (a b : Int), exP t (zpL (posL a c) b) = zpL (posL (a * t) (c * t.toNat)) (b * t)
  | 0, a, b => by
    rw [Nat.zero_mul]
    rfl
  | c + 1, a, b => by
    show zpL (posL (a * t) t.toNat) (b * t) ++ exP t (zpL (posL (a + 1) c) (b + 1)) = _
    rw [ex_zp ht c, Nat.succ_mul, Nat.add_comm, posL_app, zpL_app, posL_len, Int.add_mul, Int.add_mul, Int.one_mul, show ((t.toNat : Nat) : Int) = t by omega]
theorem fl_sc {t : Int} (ht : 0 < t) : ∀ (B : List Blk), PosB B → flB (scB t B) = exP t (flB B)
  | [], _ => rfl
  | x :: u, h => by
    have hx := h x (List.mem_cons_self ..)
    show flX (scX t x) ++ flB (scB t u) = exP t (flX x ++ flB u)
    rw [exP_app, fl_sc ht u fun y hy => h y (List.mem_cons_of_mem _ hy)]
    congr 1
    unfold flX
    rw [ex_zp ht]
    show zpL (posL (x.1 * t) (x.2.2 * t).toNat) (x.2.1 * t) = _
    rw [Int.toNat_mul (by omega) (by omega)]
theorem ex_len {t : Int} (P : List Pr) : (exP t P).length = P.length * t.toNat := by
  induction P with
  | nil => rw [List.length_nil, Nat.zero_mul]; rfl
  | cons p u ih => rw [exP_cons, List.length_append, ih, zpL_len, posL_len, List.length_cons, Nat.succ_mul, Nat.add_comm]
theorem ex_get {t : Int} : ∀ (P : List Pr) (i r : Nat) (p : Pr), P[i]? = some p → r < t.toNat → (exP t P)[i * t.toNat + r]? = some (p.1 * t + (r : Int), p.2 * t + (r : Int))
  | [], _, _, _, h, _ => by simp at h
  | x :: u, 0, r, p, h, hr => by
    have e : x = p := Option.some.inj h
    subst e
    rw [Nat.zero_mul, Nat.zero_add, exP_cons, List.getElem?_append_left (by rw [zpL_len, posL_len]; exact hr), zp_get _ _ _ _ hr]
  | x :: u, i + 1, r, p, h, hr => by
    have h : u[i]? = some p := h
    rw [exP_cons, List.getElem?_append_right (by rw [zpL_len, posL_len, Nat.succ_mul]; omega), zpL_len, posL_len, Nat.succ_mul, show i * t.toNat + t.toNat + r - t.toNat = i * t.toNat + r by omega]
    exact ex_get u i r p h hr
theorem ex_mem {t : Int} (ht : 0 < t) {P : List Pr} {q : Pr} (h : q ∈ exP t P) : ∃ p ∈ P, ∃ j : Int, 0 ≤ j ∧ j < t ∧ q = (p.1 * t + j, p.2 * t + j) := by
  obtain ⟨p, hp, hq⟩ := List.mem_flatMap.mp h
  have := (mem_zp _ _ _ q).mp hq
  rw [show ((t.toNat : Nat) : Int) = t by omega] at this
  exact ⟨p, hp, q.1 - p.1 * t, by omega, by omega, Prod.ext (by show q.1 = p.1 * t + (q.1 - p.1 * t); omega) (by show q.2 = p.2 * t + (q.1 - p.1 * t); omega)⟩
theorem same_item {a b j r t : Int} (ht : 0 < t) (j0 : 0 ≤ j) (j1 : j < t) (r0 : 0 ≤ r) (r1 : r < t) (e : a * t + j = b * t + r) : a = b := by
  rcases Int.lt_trichotomy a b with c | c | c
  · have := (le_sc (a := a + 1) (b := b) ht).mpr (by omega)
    rw [Int.add_mul, Int.one_mul] at this
    omega
  · exact c
  · have := (le_sc (a := b + 1) (b := a) ht).mpr (by omega)
    rw [Int.add_mul, Int.one_mul] at this
    omega
theorem ps_sorted : ∀ (ks : List Str) (ws : List Run) (n : Nat), (psR ws n ks).Pairwise fun p q => p.2 < q.2
  | [], _, _ => List.Pairwise.nil
  | k :: t, ws, n => by
    show (plP ws k n ++ psR (plS ws k n) (n + 1) t).Pairwise _
    have ih := ps_sorted t (plS ws k n) (n + 1)
    have bd := ps_snd t (plS ws k n) (n + 1)
    cases ws with
    | nil => exact ih
    | cons r u =>
      by_cases c : r.1 = k
      · rw [show plP (r :: u) k n = [] from if_pos c]
        exact ih
      · rw [show plP (r :: u) k n = [(r.2, (n : Int))] from if_neg c]
        refine List.Pairwise.cons (fun q hq => ?_) ih
        have := bd q hq
        show (n : Int) < q.2
        omega
theorem sorted_at : ∀ {P : List Pr} {k : Nat} {p : Pr}, P.Pairwise (fun p q => p.2 < q.2) → P[k]? = some p → (P.filter fun q => decide (q.2 < p.2)).length = k
  | x :: t, 0, p, h, e => by
    have e : x = p := Option.some.inj e
    subst e
    have h := List.pairwise_cons.mp h
    rw [List.length_eq_zero_iff, List.filter_eq_nil_iff]
    intro q hq z
    have z := of_decide_eq_true z
    rcases List.mem_cons.mp hq with w | w
    · rw [w] at z
      omega
    · have := h.1 q w
      omega
  | x :: t, k + 1, p, h, e => by
    have e : t[k]? = some p := e
    have h := List.pairwise_cons.mp h
    have lt := h.1 p (List.mem_of_getElem? e)
    rw [List.filter_cons, if_pos (decide_eq_true lt), List.length_cons, sorted_at h.2 e]
theorem scR_pos {t : Int} {rs : List Run} (t1 : 1 ≤ t) (k : ∀ r ∈ rs, 1 ≤ r.2) : ∀ r ∈ scR t rs, 1 ≤ r.2 := by
  intro r hr
  obtain ⟨x, hx, rfl⟩ := List.mem_map.mp hr
  have c1 := k x hx
  show 1 ≤ x.2 * t
  have := Int.mul_le_mul c1 t1 (by decide) (by omega)
  omega
theorem scR_alt {t : Int} {rs : List Run} (a : Alt rs) : Alt (scR t rs) := by
  intro i x y hx hy
  unfold scR at hx hy
  rw [List.getElem?_map] at hx hy
  cases e1 : rs[i]? with
  | none => rw [e1] at hx; cases hx
  | some a' =>
    cases e2 : rs[i + 1]? with
    | none => rw [e2] at hy; cases hy
    | some b' =>
      rw [e1] at hx
      rw [e2] at hy
      cases hx
      cases hy
      exact a i a' b' e1 e2
/-- all that is told of a multiplied sequence's pairs -/
structure Mul (t : Int) (rs : List Run) : Prop where
  lb : blR (scR t rs) = lbR t (psR [] 0 (itR rs))
  fl : flB (blR (scR t rs)) = exP t (psR [] 0 (itR rs))
  ps : psR [] 0 (itR (scR t rs)) = exP t (psR [] 0 (itR rs))
  pb : PosB (blR (scR t rs))
theorem mul_of {t : Int} {rs : List Run} (t1 : 1 ≤ t) (k : ∀ r ∈ rs, 1 ≤ r.2) (a : Alt rs) : Mul t rs := by
  have ht : 0 < t := by omega
  obtain ⟨w1, w2⟩ := whole_pairs k a
  obtain ⟨v1, v2⟩ := whole_pairs (scR_pos t1 k) (scR_alt (t := t) a)
  have f : flB (blR (scR t rs)) = exP t (psR [] 0 (itR rs)) := by rw [blR_sc ht, fl_sc ht _ w2, w1]
  exact ⟨whole_lb ht k a, f, by rw [← v1, f], v2⟩
theorem pc_count {rs : List Run} {k : Nat} {p : Pr} (pos : ∀ r ∈ rs, 1 ≤ r.2) (h : (psR [] 0 (itR rs))[k]? = some p) : 0 ≤ p.2 ∧ p.2 < lenR rs ∧ pcR rs p.2 = (k : Int) := by
  have b := ps_snd _ _ _ p (List.mem_of_getElem? h)
  have l := len_it rs pos
  have pm : ((p.2.toNat : Nat) : Int) = p.2 := by omega
  have e1 := pc_at (m := p.2.toNat) pos (by omega)
  rw [pm] at e1
  refine ⟨by omega, by omega, ?_⟩
  rw [e1, ← ps_filter _ _ (by omega), pm, sorted_at (ps_sorted _ _ _) h]
theorem pair_in {rs : List Run} {p : Pr} (pos : ∀ r ∈ rs, 1 ≤ r.2) (h : p ∈ psR [] 0 (itR rs)) : 0 ≤ p.1 ∧ p.1 < lenR rs ∧ 0 ≤ p.2 ∧ p.2 < lenR rs := by
  have l := len_it rs pos
  have pm := ps_perm (itR rs) [] 0
  have b1 := posL_ge _ _ p.1 (pm.mem_iff.mp (List.mem_append.mpr (.inl (List.mem_map.mpr ⟨p, h, rfl⟩))))
  have b2 := posL_ge _ _ p.2 (pm.mem_iff.mp (List.mem_append.mpr (.inr (List.mem_append.mpr (.inl (List.mem_map.mpr ⟨p, h, rfl⟩))))))
  omega
theorem wait_in {rs : List Run} {r : Run} (pos : ∀ r ∈ rs, 1 ≤ r.2) (h : r ∈ plA [] 0 (itR rs)) : 0 ≤ r.2 ∧ r.2 < lenR rs ∧ ∀ p ∈ psR [] 0 (itR rs), p.1 ≠ r.2 ∧ p.2 ≠ r.2 := by
  have l := len_it rs pos
  have pm := ps_perm (itR rs) [] 0
  have hr : r.2 ∈ psW (plA [] 0 (itR rs)) := List.mem_map.mpr ⟨r, h, rfl⟩
  have b1 := posL_ge _ _ r.2 (pm.mem_iff.mp (List.mem_append.mpr (.inr (List.mem_append.mpr (.inr hr)))))
  refine ⟨by omega, by omega, fun p hp => ?_⟩
  obtain ⟨_, h2, h3⟩ := List.nodup_append.mp (ps_nodup (itR rs))
  obtain ⟨_, _, h6⟩ := List.nodup_append.mp h2
  exact ⟨h3 _ (List.mem_map.mpr ⟨p, hp, rfl⟩) _ (List.mem_append.mpr (.inr hr)), h6 _ (List.mem_map.mpr ⟨p, hp, rfl⟩) _ hr⟩
end UP

set_option Elab.async false
set_option linter.all false
set_option maxRecDepth 100000
set_option maxHeartbeats 4000000
namespace UP
open PySem PySem.Spec PyProof.Rows L2
def dB (x : Blk) : PyData := .tuple [.int x.1, .int x.2.1, .int x.2.2]
theorem dp_bv {K : PySem.W.Frag} {H : Hp} {v : V} {r : Blk} (h : BV H v r) : Dp K H v (dB r) := by
  obtain ⟨t, rfl, h⟩ := h
  exact .tup (.of h) (.cons (.int _) (.cons (.int _) (.cons (.int _) .nil)))
theorem dp_bvs {K : PySem.W.Frag} {H : Hp} : ∀ {xs : List V} {rs : List Blk}, Paired (BV H) xs rs → DpAll K H xs (rs.map dB)
  | _, _, .nil => .nil
  | _, _, .cons h t => .cons (dp_bv h) (dp_bvs t)
theorem can_bvs : ∀ (rs : List Blk), PyData.canLayAll0 (rs.map dB) = true
  | [] => by simp [PyData.canLayAll0]
  | r :: t => by
    simp only [List.map_cons, PyData.canLayAll0, can_bvs t]
    simp [dB, PyData.canLay0, PyData.canLayAll0]
theorem depth_bvs : ∀ (rs : List Blk), PyData.depthAll (rs.map dB) ≤ 1
  | [] => by simp [PyData.depthAll]
  | r :: t => by
    simp only [List.map_cons, PyData.depthAll]
    refine Nat.max_le.mpr ⟨?_, depth_bvs t⟩
    simp [dB, PyData.depth, PyData.depthAll]
theorem shaped_bvs (rs : List Blk) : SeqAt.shaped (.list (rs.map dB)) = true := by
  unfold SeqAt.shaped
  rw [PyData.canLay0, can_bvs, PyData.depth]
  have := depth_bvs rs
  exact decide_eq_true (by omega)
theorem eqv_nilB (rs : List Blk) : PyData.eqv (.list (rs.map dB)) (.list []) = rs.isEmpty := by
  cases rs with
  | nil => simp [PyData.eqv, PyData.eqvAll]
  | cons r t => simp [PyData.eqv, PyData.eqvAll]
theorem eqv_two (x y u v : Int) : PyData.eqv (.list [.int x, .int y]) (.list [.int u, .int v]) = (decide (x = u) && decide (y = v)) := by
  simp [PyData.eqv, PyData.eqvAll]
  rfl
theorem shaped_two (x y : Int) : SeqAt.shaped (.list [.int x, .int y]) = true := by
  unfold SeqAt.shaped
  simp [PyData.canLay0, PyData.canLayAll0, PyData.depth, PyData.depthAll]
theorem dt_bvs {H : Hp} : ∀ {xs : List V} {R : List Blk}, Paired (BV H) xs R → Paired (Dt H 1) xs (R.map dB)
  | _, _, .nil => .nil
  | _, _, .cons h t => by
    refine .cons ?_ (dt_bvs t)
    obtain ⟨a, rfl, h⟩ := h
    exact .inr (.inr ⟨a, _, _, rfl, h, rfl, .cons dt_int (.cons dt_int (.cons dt_int .nil)), Nat.le_of_ble_eq_true rfl⟩)
theorem dt_blks {H : Hp} {p : Addr} {R : List Blk} (h : Blks H p R) (l : R.length ≤ 100000) : Dt H 2 (.ref p) (.list (R.map dB)) := by
  obtain ⟨xs, hx, hp⟩ := h
  exact .inr (.inl ⟨p, xs, _, rfl, hx, rfl, dt_bvs hp, by rw [List.length_map]; exact l⟩)
theorem at3a {α : Type} {x y z : α} : atI [x, y, z] 0 = some x := rfl
theorem at3b {α : Type} {x y z : α} : atI [x, y, z] 1 = some y := rfl
theorem at3c {α : Type} {x y z : α} : atI [x, y, z] 2 = some z := rfl
section
variable {P : Program} {w : World} {K : PySem.W.Frag} {mg : Str → Option Value} {base : Heap}
end
end UP

set_option Elab.async false
set_option linter.all false
set_option maxRecDepth 100000
set_option maxHeartbeats 4000000
namespace UP
open PySem PySem.Spec PyProof.Rows L2
/-! ### the longest wait -/
def lwS (l : Option Pr) (x : Blk) : Option Pr := match l with
  | none => some (x.1, x.2.1)
  | some p => if p.2 - p.1 < x.2.1 - x.1 then some (x.1, x.2.1) else some p
def lwR (B : List Blk) : Option Pr := B.foldl lwS none
theorem lwR_snoc (B : List Blk) (x : Blk) : lwR (B ++ [x]) = lwS (lwR B) x := by
  unfold lwR
  rw [List.foldl_append]
  rfl
def OPV (H : Hp) (v : V) : Option Pr → Prop
  | none => v = .non
  | some p => PV H v p
theorem OPV.same {H H' : Hp} {v : V} {p : Option Pr} (s : Same H H') (h : OPV H v p) : OPV H' v p := by
  cases p with
  | none => exact h
  | some p => exact PV.same s h
theorem can_pr : ∀ (rs : List Pr), PyData.canLayAll0 (rs.map fun p => .tuple [.int p.1, .int p.2]) = true
  | [] => by simp [PyData.canLayAll0]
  | r :: t => by
    simp only [List.map_cons, PyData.canLayAll0, can_pr t]
    simp [PyData.canLay0, PyData.canLayAll0]
theorem depth_pr : ∀ (rs : List Pr), PyData.depthAll (rs.map fun p => .tuple [.int p.1, .int p.2]) ≤ 1
  | [] => by simp [PyData.depthAll]
  | r :: t => by
    simp only [List.map_cons, PyData.depthAll]
    refine Nat.max_le.mpr ⟨?_, depth_pr t⟩
    simp [PyData.depth, PyData.depthAll]
def dPr (p : Pr) : PyData := .tuple [.int p.1, .int p.2]
theorem shaped_pr (rs : List Pr) : SeqAt.shaped (.list (rs.map dPr)) = true := by
  unfold SeqAt.shaped
  rw [PyData.canLay0, show PyData.canLayAll0 (rs.map dPr) = true from can_pr rs, PyData.depth]
  have : PyData.depthAll (rs.map dPr) ≤ 1 := depth_pr rs
  exact decide_eq_true (by omega)
theorem dp_pr {K : PySem.W.Frag} {H : Hp} : ∀ {xs : List V} {rs : List Pr}, Paired (PV H) xs rs → DpAll K H xs (rs.map dPr)
  | _, _, .nil => .nil
  | _, _, .cons ⟨t, e, h⟩ r => by
    subst e
    exact .cons (.tup (.of h) (.cons (.int _) (.cons (.int _) .nil))) (dp_pr r)
theorem eqv_pr : ∀ (a b : List Pr), PyData.eqv (.list (a.map dPr)) (.list (b.map dPr)) = decide (a = b) := by
  have gen : ∀ (a b : List Pr), PyData.eqvAll (a.map dPr) (b.map dPr) = decide (a = b) := by
    intro a
    induction a with
    | nil =>
      intro b
      cases b with
      | nil => rfl
      | cons y u => simp [PyData.eqvAll]
    | cons x t ih =>
      intro b
      cases b with
      | nil => simp [PyData.eqvAll]
      | cons y u =>
        rw [List.map_cons, List.map_cons, PyData.eqvAll, ih u]
        have e : PyData.eqv (dPr x) (dPr y) = decide (x = y) := by
          unfold dPr
          rw [PyData.eqv, PyData.eqvAll, PyData.eqvAll, PyData.eqvAll, PyData.eqv, PyData.eqv]
          by_cases c : x = y
          · subst c
            simp
          · have : ¬ (x.1 = y.1 ∧ x.2 = y.2) := fun z => c (Prod.ext z.1 z.2)
            rw [decide_eq_false c]
            by_cases c1 : x.1 = y.1
            · have c2 : ¬ x.2 = y.2 := fun z => this ⟨c1, z⟩
              simp [c1, c2]
            · simp [c1]
        rw [e]
        by_cases c1 : x = y
        · by_cases c2 : t = u
          · rw [decide_eq_true c1, decide_eq_true c2, decide_eq_true (by rw [c1, c2])]
            rfl
          · rw [decide_eq_false c2, decide_eq_false (fun z => c2 (List.cons.inj z).2)]
            cases decide (x = y) <;> rfl
        · rw [decide_eq_false c1, decide_eq_false (fun z => c1 (List.cons.inj z).1)]
          rfl
  intro a b
  rw [PyData.eqv]
  exact gen a b
theorem flB_snoc (B : List Blk) (x : Blk) : flB (B ++ [x]) = flB B ++ flX x := by rw [flB_app, flB_one]
theorem zp_snoc : ∀ (n : Nat) (a b : Int), zpL (posL a (n + 1)) b = zpL (posL a n) b ++ [(a + (n : Int), b + (n : Int))] := by
  intro n a b
  rw [posL_app, zpL_app, posL_len]
  rfl
section
variable {P : Program} {w : World} {K : PySem.W.Frag} {mg : Str → Option Value} {base : Heap}
/-! longest_wait: slots 0:sequence 1:longest 2:first 3:second 4:count -/
abbrev s_longest_wait : Stmt := topS 48
theorem sc_longest_wait : FnScope ["sequence", "longest", "first", "second", "count"] ["sequence"] (defScope s_longest_wait) := ⟨rfl, rfl, rfl, by decide +kernel, rfl, by decide +kernel, by decide +kernel⟩
def sp_longest_wait : Sp := fun vs H Q _ => ∃ (av : V) (rs : List Run), vs = [av] ∧ RunsG H av rs ∧ SeqOk rs ∧ ∀ H' v, Same H H' → OPV H' v (lwR (blR rs)) → Q v H'
theorem ok_longest_wait (D : Df K mg "longest_wait" s_longest_wait) (G_checked_runs : Has P w K mg base 5 "checked_runs" ["sequence"] sp_checked_runs) (G_blocks_of : Has P w K mg base 3 "blocks_of" ["runs"] sp_blocks_of) : Has P w K mg base 6 "longest_wait" ["sequence"] sp_longest_wait := by
  refine has_of D sc_longest_wait (fun _ _ _ _ _ _ us hl => match us, hl with | [_], _ => rfl) (fun vs H Q E h => ?_) (fun f cdv A outer s H vs Q E hr h => ?_)
  · obtain ⟨v, r, rfl, _⟩ := h
    rfl
  · obtain ⟨av, rs, rfl, hR, ok, q⟩ := h
    refine ⟨_, (pss_cons (ps_set (i := 1) sc_longest_wait.nd rfl (by first | exact Or.inl rfl | exact Or.inr rfl) pe_non)
    (pss_cons (ps_for PassesOwn.never rfl (pi_list (pe_callH G_blocks_of (hr.mono (by omega)) (by rfl) (pa_cons (pe_callH G_checked_runs (hr.mono (by omega)) (by rfl) (pa_cons (pv 0) pa_nil)) pa_nil))) (pg_tup rfl (pgs_cons (pg_name (i := 2) sc_longest_wait.nd rfl (by first | exact Or.inl rfl | exact Or.inr rfl)) (pgs_cons (pg_name (i := 3) sc_longest_wait.nd rfl (by first | exact Or.inl rfl | exact Or.inr rfl)) (pgs_cons (pg_name (i := 4) sc_longest_wait.nd rfl (by first | exact Or.inl rfl | exact Or.inr rfl)) pgs_nil))))
      (pss_one (ps_if (PW.pt (pw_or (pt_cmpR op_isN (pv 1) pe_non (nomark _)) (pw_or1 (pt_cmpR op_gt (pe_op op_sub (pv 3) (pv 2)) (pe_op op_sub (pe_ix ix_tup (pv 1) pe_int (fun _ _ => rfl)) (pe_ix ix_tup (pv 1) pe_int (fun _ _ => rfl))) (nomark _))))) (pss_one (ps_set (i := 1) sc_longest_wait.nd rfl (by first | exact Or.inl rfl | exact Or.inr rfl) (pe_tup (pa_cons (pv 2) (pa_cons (pv 3) pa_nil))))) pss_nil)))
    (pss_one (ps_ret (pv 1))))), ?_⟩
    refine ⟨_, rfl, av, rs, rfl, hR, ok, fun H1 p s1 np hp => ⟨p, rs, rfl, hp, ok.1, (fun r hr => (ok.2.1 r hr).2.1), ok.2.2, fun H2 p2 s2 n2 h2 => ?_⟩⟩
    obtain ⟨xs, hx, hpr⟩ := h2
    have lx : xs.length = (blR rs).length := Paired.len hpr
    refine ⟨p2, rfl, ⟨xs, .of hx⟩, for_list (K := K) (a := p2) (xs := xs) (fun i σ H' => ∃ v y2 y3 y4, σ = [some av, some v, y2, y3, y4] ∧ Same H2 H' ∧ OPV H' v (lwR ((blR rs).take i))) ⟨.non, none, none, none, rfl, Same.refl _, rfl⟩ (fun i σ H' _ hP => ?_) (fun i x σ H3 ex hP => ?_) (fun σ H3 hP => ?_)⟩
    · obtain ⟨_, _, _, _, _, sm, _⟩ := hP
      exact .of (sm _ _ hx)
    · obtain ⟨v, y2, y3, y4, rfl, sm, hv⟩ := hP
      obtain ⟨b, eb, hb⟩ := Paired.at hpr ex
      obtain ⟨t, rfl, ht⟩ := BV.same sm hb
      refine ⟨t, _, rfl, .of ht, rfl, _, _, rfl, _, _, rfl, _, _, rfl, rfl, ?_⟩
      rw [take_snoc eb, lwR_snoc]
      generalize lwR ((blR rs).take i) = l at hv ⊢
      cases l with
      | none =>
        cases hv
        exact ⟨_, rfl, rfl, _, rfl, iteP rfl ⟨_, rfl, _, rfl, (by show 2 ≤ sizeLine; decide), fun u nu => ⟨_, _, _, _, rfl, sm.trans (same_upd nu), ⟨u, rfl, upd_same⟩⟩⟩⟩
      | some pr =>
        obtain ⟨tp, rfl, htp⟩ := hv
        refine ⟨_, rfl, rfl, _, rfl, iteN rfl ⟨_, rfl, _, rfl, _, _, rfl, rfl, _, rfl, tp, _, 1, _, rfl, rfl, .of htp, at1, _, rfl, tp, _, 0, _, rfl, rfl, .of htp, at0, _, _, rfl, rfl, _, _, rfl, rfl, _, rfl, ?_⟩⟩
        by_cases c : pr.2 - pr.1 < b.2.1 - b.1
        · rw [show lwS (some pr) b = some (b.1, b.2.1) from if_pos c]
          exact iteP (decide_eq_true c) ⟨_, rfl, _, rfl, (by show 2 ≤ sizeLine; decide), fun u nu => ⟨_, _, _, _, rfl, sm.trans (same_upd nu), ⟨u, rfl, upd_same⟩⟩⟩
        · rw [show lwS (some pr) b = some pr from if_neg c]
          exact iteN (decide_eq_false c) ⟨_, _, _, _, rfl, sm, ⟨tp, rfl, htp⟩⟩
    · obtain ⟨v, y2, y3, y4, rfl, sm, hv⟩ := hP
      rw [lx, List.take_length] at hv
      exact ⟨_, rfl, q _ _ (s1.trans (s2.trans sm)) hv⟩
end
end UP

set_option Elab.async false
set_option linter.all false
set_option maxRecDepth 100000
set_option maxHeartbeats 4000000
namespace UP
open PySem PySem.Spec PyProof.Rows L2
theorem ps_lt : ∀ (ks : List Str) (ws : List Run) (n : Nat), (∀ r ∈ ws, r.2 < (n : Int)) → ∀ p ∈ psR ws n ks, p.1 < p.2
  | [], _, _, _, p, h => by cases h
  | k :: t, ws, n, hw, p, h => by
    rcases List.mem_append.mp (show p ∈ plP ws k n ++ psR (plS ws k n) (n + 1) t from h) with z | z
    · cases ws with
      | nil => cases z
      | cons r u =>
        have z : p ∈ (if r.1 = k then [] else [(r.2, (n : Int))]) := z
        by_cases c : r.1 = k
        · rw [if_pos c] at z
          cases z
        · rw [if_neg c] at z
          rw [List.mem_singleton.mp z]
          exact hw r (List.mem_cons_self ..)
    · refine ps_lt t _ (n + 1) (fun r hr => ?_) p z
      cases ws with
      | nil =>
        rw [List.mem_singleton.mp (show r ∈ [(k, (n : Int))] from hr)]
        show (n : Int) < ((n + 1 : Nat) : Int)
        omega
      | cons x u =>
        have hr : r ∈ (if x.1 = k then (x :: u) ++ [(k, (n : Int))] else u) := hr
        by_cases c : x.1 = k
        · rw [if_pos c] at hr
          rcases List.mem_append.mp hr with y | y
          · have := hw r y
            omega
          · rw [List.mem_singleton.mp y]
            show (n : Int) < ((n + 1 : Nat) : Int)
            omega
        · rw [if_neg c] at hr
          have := hw r (List.mem_cons_of_mem _ hr)
          omega
theorem pl_kind : ∀ (l pre : List Str) (ws : List Run), (∀ r ∈ ws, 0 ≤ r.2 ∧ pre[r.2.toNat]? = some r.1) → ∀ r ∈ plA ws pre.length l, 0 ≤ r.2 ∧ (pre ++ l)[r.2.toNat]? = some r.1
  | [], pre, ws, h, r, hr => by
    rw [List.append_nil]
    exact h r hr
  | k :: t, pre, ws, h, r, hr => by
    have old : ∀ x ∈ ws, 0 ≤ x.2 ∧ (pre ++ [k])[x.2.toNat]? = some x.1 := fun x hx => by
      have := h x hx
      refine ⟨this.1, ?_⟩
      rw [List.getElem?_append_left (List.getElem?_eq_some_iff.mp this.2).1]
      exact this.2
    have new : 0 ≤ ((k, (pre.length : Int)) : Run).2 ∧ (pre ++ [k])[((k, (pre.length : Int)) : Run).2.toNat]? = some ((k, (pre.length : Int)) : Run).1 := by
      refine ⟨by show (0 : Int) ≤ (pre.length : Int); omega, ?_⟩
      show (pre ++ [k])[((pre.length : Int)).toNat]? = some k
      rw [Int.toNat_natCast, List.getElem?_concat_length]
    have h2 := pl_kind t (pre ++ [k]) (plS ws k pre.length) (fun x hx => by
      cases ws with
      | nil =>
        rw [List.mem_singleton.mp (show x ∈ [(k, (pre.length : Int))] from hx)]
        exact new
      | cons y u =>
        have hx : x ∈ (if y.1 = k then (y :: u) ++ [(k, (pre.length : Int))] else u) := hx
        by_cases c : y.1 = k
        · rw [if_pos c] at hx
          rcases List.mem_append.mp hx with z | z
          · exact old x z
          · rw [List.mem_singleton.mp z]
            exact new
        · rw [if_neg c] at hx
          exact old x (List.mem_cons_of_mem _ hx)) r (by rw [List.length_append]; exact hr)
    rw [List.append_assoc] at h2
    exact h2
/-- what is so where a pair leaves -/
theorem at_pair {its : List Str} {j : Nat} {p : Pr} (h : (psR [] 0 its)[j]? = some p) : ∃ (k : Str) (r : Run) (t : List Run), 0 ≤ p.1 ∧ p.1 < p.2 ∧ p.2.toNat < its.length ∧ its[p.2.toNat]? = some k ∧ plA [] 0 (its.take p.2.toNat) = r :: t ∧ r.1 ≠ k ∧ r.2 = p.1 ∧ its[p.1.toNat]? = some r.1 ∧ (psR [] 0 (its.take p.2.toNat)).length = j ∧ (psR [] 0 (its.take (p.2.toNat + 1))).length = j + 1 := by
  have hm := List.mem_of_getElem? h
  have bd := ps_snd _ _ _ p hm
  have lt := ps_lt its [] 0 (fun r hr => by cases hr) p hm
  have s0 : p.2.toNat < its.length := by omega
  have pn : ((p.2.toNat : Nat) : Int) = p.2 := by omega
  obtain ⟨k, hk⟩ : ∃ k, its[p.2.toNat]? = some k := ⟨_, List.getElem?_eq_getElem s0⟩
  have e1 : its.take (p.2.toNat + 1) = its.take p.2.toNat ++ [k] := take_snoc hk
  have lt1 : (its.take p.2.toNat).length = p.2.toNat := by rw [List.length_take]; omega
  have e2 : psR [] 0 (its.take (p.2.toNat + 1)) = psR [] 0 (its.take p.2.toNat) ++ plP (plA [] 0 (its.take p.2.toNat)) k p.2.toNat := by
    rw [e1, psR_snoc, lt1, Nat.zero_add]
  have cnt : (psR [] 0 (its.take p.2.toNat)).length = j := by
    rw [← ps_filter its _ (by omega), pn]
    exact sorted_at (ps_sorted _ _ _) h
  have mem : p ∈ plP (plA [] 0 (its.take p.2.toNat)) k p.2.toNat := by
    have e3 : psR [] 0 its = psR [] 0 (its.take (p.2.toNat + 1)) ++ psR (plA [] 0 (its.take (p.2.toNat + 1))) (p.2.toNat + 1) (its.drop (p.2.toNat + 1)) := by
      have := psR_app (its.take (p.2.toNat + 1)) (its.drop (p.2.toNat + 1)) [] 0
      rw [List.take_append_drop, List.length_take, Nat.zero_add, Nat.min_eq_left (by omega)] at this
      exact this
    rw [e3, e2] at hm
    rcases List.mem_append.mp hm with z | z
    · rcases List.mem_append.mp z with y | y
      · have := ps_snd _ _ _ p y
        rw [lt1] at this
        omega
      · exact y
    · have := ps_snd _ _ _ p z
      omega
  cases hw : plA [] 0 (its.take p.2.toNat) with
  | nil =>
    rw [hw] at mem
    cases mem
  | cons r t =>
    rw [hw] at mem e2
    have m2 : p ∈ (if r.1 = k then [] else [(r.2, ((p.2.toNat : Nat) : Int))]) := mem
    by_cases c : r.1 = k
    · rw [if_pos c] at m2
      cases m2
    · rw [if_neg c] at m2
      have ep := List.mem_singleton.mp m2
      have er : r.2 = p.1 := by rw [ep]
      have pk := pl_kind (its.take p.2.toNat) [] [] (fun r hr => by cases hr) r (by rw [List.length_nil, hw]; exact List.mem_cons_self ..)
      rw [List.nil_append, er] at pk
      have f0 : p.1.toNat < p.2.toNat := by omega
      refine ⟨k, r, t, pk.1, lt, s0, hk, rfl, c, er, ?_, cnt, ?_⟩
      · have := pk.2
        rw [List.getElem?_take, if_pos f0] at this
        exact this
      · rw [e2, List.length_append, cnt, show plP (r :: t) k p.2.toNat = [(r.2, ((p.2.toNat : Nat) : Int))] from if_neg c]
        rfl
/-! ### the waiting positions at a moment -/
theorem wa_flat {rs : List Run} {m : Nat} (k : ∀ r ∈ rs, 1 ≤ r.2) (a : Alt rs) : flR (waR (cutR 0 (m : Int) 0 rs) none 0 []) = psW (plA [] 0 ((itR rs).take m)) ∧ ∃ b, Gd (waR (cutR 0 (m : Int) 0 rs) none 0 []) b := by
  obtain ⟨n, hn⟩ := cut_kinds (e := (m : Int)) rs 0 (Int.le_refl _) k
  obtain ⟨h1, b, h2⟩ := all_runs (cutR 0 (m : Int) 0 rs) [] [] 0 (fun x hx => by cases hx) rfl trivial cutR_pos (alt_take hn a) (fun l hl => by cases hl)
  have h1 : flR (waR (cutR 0 (m : Int) 0 rs) none 0 []) = psW (plA [] 0 (itR (cutR 0 (m : Int) 0 rs))) := h1
  rw [cut_items _ _ _ (Int.le_refl _) k, Int.sub_zero, Int.toNat_natCast] at h1
  exact ⟨h1, b, h2⟩
theorem Gd.all {b : Int} : ∀ {R : List Rg}, Gd R b → ∀ p ∈ R, p.1 ≤ p.2
  | [], _, p, h => by cases h
  | q :: t, g, p, h => by
    rcases List.mem_cons.mp h with e | e
    · rw [e]
      exact g.1
    · exact Gd.all g.2.2.2 p e
theorem flP_ends {p : Rg} (h : p.1 ≤ p.2) : p.1 ∈ flP p ∧ p.2 ∈ flP p := by
  have gen : ∀ (n : Nat) (a x : Int), a ≤ x → x < a + (n : Int) → x ∈ posL a n := by
    intro n
    induction n with
    | zero => intro a x h1 h2; omega
    | succ n ih =>
      intro a x h1 h2
      by_cases e : x = a
      · rw [e]
        exact List.mem_cons_self ..
      · exact List.mem_cons_of_mem _ (ih (a + 1) x (by omega) (by omega))
  unfold flP
  exact ⟨gen _ _ _ (by omega) (by omega), gen _ _ _ (by omega) (by omega)⟩
theorem flR_head {R : List Rg} {b x : Int} {t : List Int} (g : Gd R b) (h : flR R = x :: t) : ∃ p u, R = p :: u ∧ p.1 = x := by
  cases R with
  | nil => cases h
  | cons p u =>
    refine ⟨p, u, rfl, ?_⟩
    have g1 := g.1
    obtain ⟨k, hk⟩ : ∃ k : Nat, (p.2 - p.1 + 1).toNat = k + 1 := ⟨(p.2 - p.1).toNat, by omega⟩
    rw [flR_cons] at h
    unfold flP at h
    rw [hk] at h
    exact (List.cons.inj h).1
/-! ### the longest wait -/
theorem flX_diff {x : Blk} {p : Pr} (h0 : 0 < x.2.2) (h : p ∈ flX x) : p.2 - p.1 = x.2.1 - x.1 := by
  have := (mem_fl h0 p).mp h
  omega
theorem lw_gen : ∀ (B : List Blk) (l : Option Pr), PosB B → (∀ p, l = some p → ∃ q, B.foldl lwS l = some q ∧ p.2 - p.1 ≤ q.2 - q.1 ∧ (q = p ∨ q ∈ flB B)) ∧ (∀ x ∈ flB B, ∃ q, B.foldl lwS l = some q ∧ x.2 - x.1 ≤ q.2 - q.1 ∧ (q ∈ flB B ∨ some q = l))
  | [], l, _ => ⟨fun p e => ⟨p, e, Int.le_refl _, .inl rfl⟩, fun x hx => by cases hx⟩
  | x :: t, l, hB => by
    have hx := hB x (List.mem_cons_self ..)
    have mx : ((x.1, x.2.1) : Pr) ∈ flX x := (mem_fl hx _).mpr ⟨Int.le_refl _, by show x.1 < x.1 + x.2.2; omega, by show x.2.1 = x.2.1 + x.1 - x.1; omega⟩
    obtain ⟨g1, g2⟩ := lw_gen t (lwS l x) fun y hy => hB y (List.mem_cons_of_mem _ hy)
    have key : ∃ p', lwS l x = some p' ∧ x.2.1 - x.1 ≤ p'.2 - p'.1 ∧ (p' = (x.1, x.2.1) ∨ l = some p') ∧ ∀ p, l = some p → p.2 - p.1 ≤ p'.2 - p'.1 := by
      cases l with
      | none => exact ⟨_, rfl, Int.le_refl _, .inl rfl, fun p e => by cases e⟩
      | some p =>
        by_cases c : p.2 - p.1 < x.2.1 - x.1
        · exact ⟨_, if_pos c, Int.le_refl _, .inl rfl, fun p' e => by cases e; exact Int.le_of_lt c⟩
        · exact ⟨_, if_neg c, by omega, .inr rfl, fun p' e => by cases e; exact Int.le_refl _⟩
    obtain ⟨p', e1, e2, e3, e4⟩ := key
    obtain ⟨q, h1, h2, h3⟩ := g1 p' e1
    have src : q ∈ flB (x :: t) ∨ some q = l := by
      rcases h3 with z | z
      · rcases e3 with y | y
        · exact .inl (List.mem_append.mpr (.inl (by rw [z, y]; exact mx)))
        · exact .inr (by rw [z, y])
      · exact .inl (List.mem_append.mpr (.inr z))
    refine ⟨fun p e => ⟨q, h1, by have := e4 p e; omega, ?_⟩, fun y hy => ?_⟩
    · rcases src with z | z
      · exact .inr z
      · rw [e] at z
        exact .inl (Option.some.inj z)
    · rcases List.mem_append.mp (show y ∈ flX x ++ flB t from hy) with z | z
      · have := flX_diff hx z
        exact ⟨q, h1, by omega, src⟩
      · obtain ⟨q', k1, k2, _⟩ := g2 y z
        have : some q' = some q := by rw [← k1]; exact h1
        cases this
        exact ⟨q, h1, k2, src⟩
theorem lw_max {B : List Blk} (hB : PosB B) {x : Pr} (hx : x ∈ flB B) : ∃ q, lwR B = some q ∧ q ∈ flB B ∧ x.2 - x.1 ≤ q.2 - q.1 := by
  obtain ⟨q, h1, h2, h3⟩ := (lw_gen B none hB).2 x hx
  exact ⟨q, h1, h3.resolve_right (by intro z; cases z), h2⟩
/-! ### ranges that cover everything -/
def Chain : List Rg → Int → Int → Prop
  | [], a, b => a = b
  | p :: t, a, b => p.1 = a ∧ p.1 ≤ p.2 ∧ Chain t (p.2 + 1) b
theorem posL_mem {n : Nat} {a x : Int} (h1 : a ≤ x) (h2 : x < a + (n : Int)) : x ∈ posL a n := by
  induction n generalizing a with
  | zero => omega
  | succ n ih =>
    by_cases e : x = a
    · rw [e]
      exact List.mem_cons_self ..
    · exact List.mem_cons_of_mem _ (ih (by omega) (by omega))
theorem cover : ∀ (R : List Rg) (a : Int) (n : Nat), (∀ p ∈ R, p.1 ≤ p.2) → R.Pairwise (fun p q => p.1 ≤ q.1) → (flR R).Perm (posL a n) → Chain R a (a + (n : Int))
  | [], a, n, _, _, pm => by
    have := pm.length_eq
    rw [posL_len] at this
    have : (0 : Nat) = n := this
    show a = a + (n : Int)
    omega
  | p :: t, a, n, ne, so, pm => by
    have hp := ne p (List.mem_cons_self ..)
    have so := List.pairwise_cons.mp so
    have lp : (flP p).length = (p.2 - p.1 + 1).toNat := posL_len _ _
    have ll := pm.length_eq
    rw [posL_len, flR_cons, List.length_append, lp] at ll
    have pa : a ≤ p.1 := (posL_ge _ _ _ (pm.mem_iff.mp (List.mem_append.mpr (.inl (flP_ends hp).1)))).1
    have am : a ∈ flR (p :: t) := pm.mem_iff.mpr (posL_mem (Int.le_refl _) (by omega))
    have ea : p.1 = a := by
      rcases List.mem_append.mp (show a ∈ flP p ++ flR t from am) with z | z
      · have := posL_ge _ _ _ z
        omega
      · obtain ⟨q, hq, hz⟩ := List.mem_flatMap.mp z
        have h1 := so.1 q hq
        have h2 := posL_ge _ _ _ hz
        omega
    refine ⟨ea, hp, ?_⟩
    have e : posL a n = flP p ++ posL (p.2 + 1) (n - (p.2 - p.1 + 1).toNat) := by
      have e1 : n = (p.2 - p.1 + 1).toNat + (n - (p.2 - p.1 + 1).toNat) := by omega
      have e2 := posL_app (p.2 - p.1 + 1).toNat (n - (p.2 - p.1 + 1).toNat) a
      rw [← e1] at e2
      rw [e2, show a + (((p.2 - p.1 + 1).toNat : Nat) : Int) = p.2 + 1 by omega]
      unfold flP
      rw [ea]
    rw [e, flR_cons] at pm
    have := cover t (p.2 + 1) _ (fun q hq => ne q (List.mem_cons_of_mem _ hq)) so.2 ((List.perm_append_left_iff _).mp pm)
    rw [show p.2 + 1 + ((n - (p.2 - p.1 + 1).toNat : Nat) : Int) = a + (n : Int) by omega] at this
    exact this
def rgB (B : List Blk) : List Rg := B.flatMap fun x => [(x.1, x.1 + x.2.2 - 1), (x.2.1, x.2.1 + x.2.2 - 1)]
theorem rgB_snoc (B : List Blk) (x : Blk) : rgB (B ++ [x]) = rgB B ++ [(x.1, x.1 + x.2.2 - 1), (x.2.1, x.2.1 + x.2.2 - 1)] := by
  unfold rgB
  rw [List.flatMap_append]
  rfl
theorem zp_fst : ∀ (l : List Int) (b : Int), (zpL l b).map (·.1) = l
  | [], _ => rfl
  | p :: t, b => congrArg (p :: ·) (zp_fst t (b + 1))
theorem zp_snd : ∀ (l : List Int) (b : Int), (zpL l b).map (·.2) = posL b l.length
  | [], _ => rfl
  | p :: t, b => congrArg (b :: ·) (zp_snd t (b + 1))
theorem rg_perm : ∀ (B : List Blk), PosB B → (flR (rgB B)).Perm ((flB B).map (·.1) ++ (flB B).map (·.2))
  | [], _ => .refl _
  | x :: t, h => by
    have hx := h x (List.mem_cons_self ..)
    have ih := rg_perm t fun y hy => h y (List.mem_cons_of_mem _ hy)
    have e1 : flP (x.1, x.1 + x.2.2 - 1) = (flX x).map (·.1) := by
      unfold flX flP
      rw [zp_fst]
      show posL x.1 (x.1 + x.2.2 - 1 - x.1 + 1).toNat = _
      rw [show x.1 + x.2.2 - 1 - x.1 + 1 = x.2.2 by omega]
    have e2 : flP (x.2.1, x.2.1 + x.2.2 - 1) = (flX x).map (·.2) := by
      unfold flX flP
      rw [zp_snd, posL_len]
      show posL x.2.1 (x.2.1 + x.2.2 - 1 - x.2.1 + 1).toNat = _
      rw [show x.2.1 + x.2.2 - 1 - x.2.1 + 1 = x.2.2 by omega]
    show (flP (x.1, x.1 + x.2.2 - 1) ++ (flP (x.2.1, x.2.1 + x.2.2 - 1) ++ flR (rgB t))).Perm ((flX x ++ flB t).map (·.1) ++ (flX x ++ flB t).map (·.2))
    rw [e1, e2, List.map_append, List.map_append, List.append_assoc]
    refine List.Perm.append_left _ ?_
    refine (List.Perm.append_left _ ih).trans ?_
    rw [← List.append_assoc, ← List.append_assoc]
    exact List.Perm.append_right _ List.perm_append_comm
theorem rg_ne {B : List Blk} (h : PosB B) : ∀ p ∈ rgB B, p.1 ≤ p.2 := by
  intro p hp
  obtain ⟨x, hx, hp⟩ := List.mem_flatMap.mp hp
  have := h x hx
  rcases List.mem_cons.mp hp with e | e
  · rw [e]
    show x.1 ≤ x.1 + x.2.2 - 1
    omega
  · rw [List.mem_singleton.mp e]
    show x.2.1 ≤ x.2.1 + x.2.2 - 1
    omega
/-- the blocks, one by one -/
theorem blk_facts {its : List Str} {B : List Blk} (hB : PosB B) (e : flB B = psR [] 0 its) : (∀ x ∈ B, x.1 < x.2.1) ∧ ∀ i x, B[i]? = some x → ∀ y, (B.take i).getLast? = some y → y.2.1 + y.2.2 - 1 < x.2.1 := by
  have lt := ps_lt its [] 0 (fun r hr => by cases hr)
  have so := ps_sorted its [] 0
  rw [← e] at lt so
  refine ⟨fun x hx => ?_, fun i x hx y hy => ?_⟩
  · have h0 := hB x hx
    exact lt (x.1, x.2.1) (List.mem_flatMap.mpr ⟨x, hx, (mem_fl h0 _).mpr ⟨Int.le_refl _, by show x.1 < x.1 + x.2.2; omega, by show x.2.1 = x.2.1 + x.1 - x.1; omega⟩⟩)
  · have h0 := hB x (List.mem_of_getElem? hx)
    have hyB : y ∈ B := List.mem_of_mem_take (List.mem_of_getLast? hy)
    have h1 := hB y hyB
    have e1 : flB B = flB (B.take i) ++ flB (B.drop i) := by rw [← flB_app, List.take_append_drop]
    rw [e1] at so
    have so := (List.pairwise_append.mp so).2.2
    have a := so (y.1 + y.2.2 - 1, y.2.1 + y.2.2 - 1) (List.mem_flatMap.mpr ⟨y, List.mem_of_getLast? hy, (mem_fl h1 _).mpr ⟨by show y.1 ≤ y.1 + y.2.2 - 1; omega, by show y.1 + y.2.2 - 1 < _; omega, by show y.2.1 + y.2.2 - 1 = y.2.1 + (y.1 + y.2.2 - 1) - y.1; omega⟩⟩) (x.1, x.2.1) (by
      rw [drop_at hx]
      exact List.mem_append.mpr (.inl ((mem_fl h0 _).mpr ⟨Int.le_refl _, by show x.1 < x.1 + x.2.2; omega, by show x.2.1 = x.2.1 + x.1 - x.1; omega⟩)))
    exact a
/-! ### sorted ranges -/
def kT : Option HO → Int × Int
  | some (.tup [.int i, .int j]) => (i, j)
  | _ => (0, 0)
def kH (H : Hp) : V → Int × Int
  | .ref t => kT (H t)
  | _ => (0, 0)
theorem kH_pv {H : Hp} {x : V} {p : Rg} (h : PV H x p) : kH H x = p := by
  obtain ⟨t, rfl, h⟩ := h
  show kT (H t) = p
  rw [h]
  rfl
theorem pvs_kH {H : Hp} : ∀ {xs : List V} {R : List Rg}, Paired (PV H) xs R → xs.map (kH H) = R
  | _, _, .nil => rfl
  | _, _, .cons h t => by rw [List.map_cons, kH_pv h, pvs_kH t]
theorem pvs_of {H : Hp} {xs ys : List V} {R : List Rg} (h : Paired (PV H) xs R) (s : ∀ y ∈ ys, y ∈ xs) : Paired (PV H) ys (ys.map (kH H)) := by
  have all : ∀ y ∈ xs, PV H y (kH H y) := by
    intro y hy
    obtain ⟨i, hi⟩ := List.mem_iff_getElem?.mp hy
    obtain ⟨r, _, hr⟩ := Paired.at h hi
    rw [kH_pv hr]
    exact hr
  have gen : ∀ (l : List V), (∀ y ∈ l, y ∈ xs) → Paired (PV H) l (l.map (kH H)) := by
    intro l
    induction l with
    | nil => intro _; exact .nil
    | cons y u ih => intro h; exact .cons (all y (h y (List.mem_cons_self ..))) (ih fun z hz => h z (List.mem_cons_of_mem _ hz))
  exact gen ys s
theorem rev_ne {P : List Pr} (so : P.Pairwise fun p q => p.2 < q.2) (l : 2 ≤ P.length) : P.reverse ≠ P := by
  intro e
  match P, l with
  | x :: y :: t, _ =>
    have h : (x :: y :: t).reverse.head? = (x :: y :: t).head? := by rw [e]
    rw [List.head?_reverse, List.getLast?_cons_cons] at h
    have h : (y :: t).getLast? = some x := h
    have := (List.pairwise_cons.mp so).1 x (List.mem_of_getLast? h)
    omega
end UP

set_option Elab.async false
set_option linter.all false
set_option maxRecDepth 100000
set_option maxHeartbeats 4000000
namespace UP
open PySem PySem.Spec PyProof.Rows L2
theorem cut_its {s e : Int} : ∀ (rs : List Run) (b : Int), (∀ r ∈ rs, 1 ≤ r.2) → itR (cutR s e b rs) = ((itR rs).take (e - b).toNat).drop (s - b).toNat
  | [], b, _ => by
    show ([] : List Str) = (([] : List Str).take _).drop _
    rw [List.take_nil, List.drop_nil]
  | r :: t, b, k => by
    have c1 := k r (List.mem_cons_self ..)
    have ih := cut_its (s := s) (e := e) t (b + r.2) fun x hx => k x (List.mem_cons_of_mem _ hx)
    have e1 : cutR s e b (r :: t) = pieceR b s e r ++ cutR s e (b + r.2) t := rfl
    have e2 : itR (r :: t) = List.replicate r.2.toNat r.1 ++ itR t := rfl
    have ep : itR (pieceR b s e r) = List.replicate (min (e - b).toNat r.2.toNat - (s - b).toNat) r.1 := by
      by_cases hs : 0 < sizeR b s e r.2
      · rw [show pieceR b s e r = [(r.1, sizeR b s e r.2)] from if_pos hs]
        show List.replicate (sizeR b s e r.2).toNat r.1 ++ [] = _
        rw [List.append_nil]
        congr 1
        unfold sizeR at hs ⊢
        split at hs <;> split at hs <;> (first | rw [if_pos (by omega)] | rw [if_neg (by omega)]) <;> (first | rw [if_pos (by omega)] | rw [if_neg (by omega)]) <;> omega
      · rw [show pieceR b s e r = [] from if_neg hs]
        have : min (e - b).toNat r.2.toNat - (s - b).toNat = 0 := by
          unfold sizeR at hs
          split at hs <;> split at hs <;> omega
        rw [this]
        rfl
    rw [e1, it_app, ih, e2, take_app, List.length_replicate, List.take_replicate, List.drop_append, List.length_replicate, List.drop_replicate, ep, show (e - (b + r.2)).toNat = (e - b).toNat - r.2.toNat by omega]
    congr 1
    by_cases h : (e - b).toNat ≤ r.2.toNat
    · rw [show (e - b).toNat - r.2.toNat = 0 by omega, List.take_zero, List.drop_nil, List.drop_nil]
    · rw [show (s - (b + r.2)).toNat = (s - b).toNat - min (e - b).toNat r.2.toNat by omega]
theorem head_it {rs : List Run} (p : ∀ r ∈ rs, 1 ≤ r.2) : rs.head?.map (·.1) = (itR rs)[0]? := by
  cases rs with
  | nil => rfl
  | cons r t =>
    have c1 := p r (List.mem_cons_self ..)
    obtain ⟨n, hn⟩ : ∃ n : Nat, r.2.toNat = n + 1 := ⟨r.2.toNat - 1, by omega⟩
    show some r.1 = (List.replicate r.2.toNat r.1 ++ itR t)[0]?
    rw [hn]
    rfl
theorem kind_pos {rs : List Run} {m : Int} {k : Str} (p : ∀ r ∈ rs, 1 ≤ r.2) (m0 : 0 ≤ m) (h : (itR rs)[m.toNat]? = some k) : (cutR m (m + 1) 0 rs).head?.map (·.1) = some k := by
  rw [head_it cutR_pos, cut_its _ _ p, List.getElem?_drop, List.getElem?_take, if_pos (by omega), Int.sub_zero, Nat.add_zero]
  exact h
theorem so_none : StOk none := fun r h => by cases h
section
variable {P : Program} {w : World} {K : PySem.W.Frag} {mg : Str → Option Value} {base : Heap}
/-! kind_at: slots 0:sequence 1:position 2:runs -/
abbrev s_kind_at : Stmt := topS 23
theorem sc_kind_at : FnScope ["sequence", "position", "runs"] ["sequence", "position"] (defScope s_kind_at) := ⟨rfl, rfl, rfl, by decide +kernel, rfl, by decide +kernel, by decide +kernel⟩
def sp_kind_at : Sp := fun vs H Q _ => ∃ (av : V) (rs : List Run) (m : Int) (k : Str), vs = [av, .int m] ∧ RunsG H av rs ∧ SeqOk rs ∧ 0 ≤ m ∧ m < lenR rs ∧ (cutR m (m + 1) 0 rs).head?.map (·.1) = some k ∧ ∀ H', Same H H' → Q (.str k) H'
theorem ok_kind_at (D : Df K mg "kind_at" s_kind_at) (G_checked_runs : Has P w K mg base 5 "checked_runs" ["sequence"] sp_checked_runs) (G_check_position : Has P w K mg base 3 "check_position" ["runs", "position"] sp_check_position) (G_cut : Has P w K mg base 1 "cut" ["runs", "start", "length"] sp_cut) : Has P w K mg base 6 "kind_at" ["sequence", "position"] sp_kind_at := by
  refine has_of D sc_kind_at (fun _ _ _ _ _ _ us hl => match us, hl with | [_, _], _ => rfl) (fun vs H Q E h => ?_) (fun f cdv A outer s₀ H vs Q E hr h => ?_)
  · obtain ⟨a, R, _, _, rfl, _⟩ := h
    rfl
  · obtain ⟨av, rs, m, k, rfl, hR, ok, m0, m1, hk, q⟩ := h
    have l4 : rs.length ≤ 1000 := by have := ok.1; omega
    refine ⟨_, (pss_cons (ps_set (i := 2) sc_kind_at.nd rfl (by first | exact Or.inl rfl | exact Or.inr rfl) (pe_callH G_checked_runs (hr.mono (by omega)) (by rfl) (pa_cons (pv 0) pa_nil)))
    (pss_cons (ps_expr (pe_callH G_check_position (hr.mono (by omega)) (by rfl) (pa_cons (pv 2) (pa_cons (pv 1) pa_nil))))
    (pss_one (ps_ret (pe_ix ix_tup (pe_ix ix_list (pe_callH G_cut (hr.mono (by omega)) (by rfl) (pa_cons (pv 2) (pa_cons (pv 1) (pa_cons pe_int pa_nil)))) pe_int (fun _ _ => rfl)) pe_int (fun _ _ => rfl)))))), ?_⟩
    refine ⟨_, rfl, av, rs, rfl, hR, ok, fun H1 p s1 np hp => ?_⟩
    refine ⟨_, rfl, _, rfl, p, rs, m, rfl, hp, l4, m0, m1, fun H2 s2 => ?_⟩
    refine ⟨_, rfl, _, rfl, p, rs, m, 1, rfl, hp.same s2, l4, fun H3 p3 s3 n3 h3 => ?_⟩
    obtain ⟨xs, hx, hpr⟩ := h3
    cases hc : cutR m (m + 1) 0 rs with
    | nil =>
      rw [hc] at hk
      cases hk
    | cons r t =>
      rw [hc] at hk hpr
      have hk : r.1 = k := Option.some.inj hk
      cases hpr with
      | cons h _ =>
        obtain ⟨tr, rfl, htr⟩ := h
        rw [hk] at htr
        exact ⟨p3, _, 0, _, rfl, rfl, .of hx, atI_nat (j := 0) rfl, tr, _, 0, _, rfl, rfl, .of htr, at0, q _ (s1.trans (s2.trans s3))⟩
end
end UP

set_option Elab.async false
set_option linter.all false
set_option maxRecDepth 100000
set_option maxHeartbeats 4000000
namespace UP
open PySem PySem.Spec PyProof.Rows L2
theorem len_mem {rs : List Run} (p : ∀ r ∈ rs, 1 ≤ r.2) : ∀ r ∈ rs, r.2 ≤ lenR rs := by
  induction rs with
  | nil => intro r h; cases h
  | cons x t ih =>
    intro r hr
    have c1 := p x (List.mem_cons_self ..)
    have ih' := ih fun y hy => p y (List.mem_cons_of_mem _ hy)
    rw [lenR_cons]
    have nn : 0 ≤ lenR t := by
      have := len_it t fun y hy => p y (List.mem_cons_of_mem _ hy)
      omega
    rcases List.mem_cons.mp hr with e | e
    · rw [e]
      omega
    · have := ih' r e
      omega
/-! ### cutting and joining -/
theorem cut_pre {s e : Int} : ∀ (rs : List Run) (b : Int), s ≤ b → (∀ r ∈ rs, 1 ≤ r.2) → ∃ n, (cutR s e b rs).map (·.1) = (rs.map (·.1)).take n
  | [], _, _, _ => ⟨0, rfl⟩
  | r :: t, b, h0, k => by
    have c1 := k r (List.mem_cons_self ..)
    by_cases hs : 0 < sizeR b s e r.2
    · obtain ⟨n, hn⟩ := cut_pre (s := s) (e := e) t (b + r.2) (by omega) fun x hx => k x (List.mem_cons_of_mem _ hx)
      refine ⟨n + 1, ?_⟩
      show (pieceR b s e r ++ cutR s e (b + r.2) t).map (·.1) = r.1 :: (t.map (·.1)).take n
      rw [show pieceR b s e r = [(r.1, sizeR b s e r.2)] from if_pos hs, List.map_append, hn]
      rfl
    · refine ⟨0, ?_⟩
      have il : itR (cutR s e b (r :: t)) = [] := by
        rw [cut_its _ _ k, show (e - b).toNat = 0 by unfold sizeR at hs; split at hs <;> split at hs <;> omega, List.take_zero, List.drop_nil]
      have ll := len_it (cutR s e b (r :: t)) cutR_pos
      rw [il] at ll
      cases hc : cutR s e b (r :: t) with
      | nil => rfl
      | cons x u =>
        rw [hc] at ll
        have px : ∀ y ∈ x :: u, 1 ≤ y.2 := by rw [← hc]; exact cutR_pos
        have := len_mem px x (List.mem_cons_self ..)
        have := px x (List.mem_cons_self ..)
        have ll : ((0 : Nat) : Int) = lenR (x :: u) := ll
        omega
theorem cut_sub {s e : Int} : ∀ (rs : List Run) (b : Int), (∀ r ∈ rs, 1 ≤ r.2) → ∃ m n, (cutR s e b rs).map (·.1) = ((rs.map (·.1)).drop m).take n
  | [], _, _ => ⟨0, 0, rfl⟩
  | r :: t, b, k => by
    have c1 := k r (List.mem_cons_self ..)
    by_cases hb : s < b + r.2
    · by_cases hs : 0 < sizeR b s e r.2
      · obtain ⟨n, hn⟩ := cut_pre (s := s) (e := e) t (b + r.2) (by omega) fun x hx => k x (List.mem_cons_of_mem _ hx)
        refine ⟨0, n + 1, ?_⟩
        show (pieceR b s e r ++ cutR s e (b + r.2) t).map (·.1) = r.1 :: (t.map (·.1)).take n
        rw [show pieceR b s e r = [(r.1, sizeR b s e r.2)] from if_pos hs, List.map_append, hn]
        rfl
      · refine ⟨0, 0, ?_⟩
        have il : itR (cutR s e b (r :: t)) = [] := by
          rw [cut_its _ _ k]
          refine List.drop_of_length_le ?_
          rw [List.length_take]
          unfold sizeR at hs
          split at hs <;> split at hs <;> omega
        have ll := len_it (cutR s e b (r :: t)) cutR_pos
        rw [il] at ll
        cases hc : cutR s e b (r :: t) with
        | nil => rfl
        | cons x u =>
          rw [hc] at ll
          have px : ∀ y ∈ x :: u, 1 ≤ y.2 := by rw [← hc]; exact cutR_pos
          have := len_mem px x (List.mem_cons_self ..)
          have := px x (List.mem_cons_self ..)
          have ll : ((0 : Nat) : Int) = lenR (x :: u) := ll
          omega
    · obtain ⟨m, n, hn⟩ := cut_sub (s := s) (e := e) t (b + r.2) fun x hx => k x (List.mem_cons_of_mem _ hx)
      refine ⟨m + 1, n, ?_⟩
      have hs : ¬ 0 < sizeR b s e r.2 := by
        unfold sizeR
        split <;> split <;> omega
      show (pieceR b s e r ++ cutR s e (b + r.2) t).map (·.1) = ((t.map (·.1)).drop m).take n
      rw [show pieceR b s e r = [] from if_neg hs]
      exact hn
theorem alt_sub {rs hs : List Run} {m n : Nat} (h : hs.map (·.1) = ((rs.map (·.1)).drop m).take n) (a : Alt rs) : Alt hs := by
  intro i x y hx hy
  have g : ∀ (j : Nat) (z : Run), hs[j]? = some z → ∃ w, rs[m + j]? = some w ∧ w.1 = z.1 := by
    intro j z hz
    have := congrArg (fun l : List Str => l[j]?) h
    simp only [List.getElem?_map, hz, List.getElem?_take] at this
    split at this
    · rw [List.getElem?_drop, List.getElem?_map] at this
      cases e : rs[m + j]? with
      | none => rw [e] at this; cases this
      | some w =>
        rw [e] at this
        exact ⟨w, rfl, (Option.some.inj this).symm⟩
    · cases this
  obtain ⟨x', h1, e1⟩ := g i x hx
  obtain ⟨y', h2, e2⟩ := g (i + 1) y hy
  rw [← e1, ← e2]
  exact a (m + i) x' y' h1 h2
theorem cut_kind {s e : Int} : ∀ (rs : List Run) (b : Int), ∀ x ∈ cutR s e b rs, ∃ r ∈ rs, x.1 = r.1 ∧ x.2 ≤ r.2
  | [], _, x, h => by cases h
  | r :: t, b, x, h => by
    rcases List.mem_append.mp (show x ∈ pieceR b s e r ++ cutR s e (b + r.2) t from h) with z | z
    · by_cases hs : 0 < sizeR b s e r.2
      · rw [show pieceR b s e r = [(r.1, sizeR b s e r.2)] from if_pos hs] at z
        rw [List.mem_singleton.mp z]
        refine ⟨r, List.mem_cons_self .., rfl, ?_⟩
        show sizeR b s e r.2 ≤ r.2
        unfold sizeR
        split <;> split <;> omega
      · rw [show pieceR b s e r = [] from if_neg hs] at z
        cases z
    · obtain ⟨r', h1, h2⟩ := cut_kind t _ x z
      exact ⟨r', List.mem_cons_of_mem _ h1, h2⟩
theorem seq_cut {s e : Int} {rs : List Run} (ok : SeqOk rs) : SeqOk (cutR s e 0 rs) := by
  have pos : ∀ r ∈ rs, 1 ≤ r.2 := fun r hr => (ok.2.1 r hr).2.1
  refine ⟨Nat.le_trans (cutR_len s e rs 0) ok.1, fun x hx => ?_, ?_⟩
  · obtain ⟨r, hr, e1, e2⟩ := cut_kind rs 0 x hx
    have o := ok.2.1 r hr
    have l := cutR_pos x hx
    refine ⟨by rw [e1]; exact o.1, l, ?_⟩
    have := o.2.2
    omega
  · obtain ⟨m, n, h⟩ := cut_sub (s := s) (e := e) rs 0 pos
    exact alt_sub h ok.2.2
theorem pc_div {rs A : List Run} {n : Nat} (k : ∀ r ∈ rs, 1 ≤ r.2) (kA : ∀ r ∈ A, 1 ≤ r.2) (eA : itR A = (itR rs).take n) (hn : n ≤ (itR rs).length) : pcR rs (n : Int) = ((psR [] 0 (itR A)).length : Int) ∧ pcR A (lenR A) = ((psR [] 0 (itR A)).length : Int) := by
  refine ⟨by rw [pc_at k hn, eA], ?_⟩
  rw [← len_it A kA, pc_at kA (Nat.le_refl _), List.take_length]
theorem pc_left {rs : List Run} (k : ∀ r ∈ rs, 1 ≤ r.2) : lenR rs - 2 * pcR rs (lenR rs) = numR (stR rs none) := by
  rw [(pc_div (n := (itR rs).length) k k (by rw [List.take_length]) (Nat.le_refl _)).2, st_items _ _ pos_none k, ← len_it rs k]
  have e2 := ps_count (itR rs)
  have e3 : toldR (plA [] 0 (itR rs)) = stI (itR rs) none := told_plA (itR rs) [] 0 (uni_w0 none)
  rw [← e3, told_len]
  omega
end UP

set_option Elab.async false
set_option linter.all false
set_option maxRecDepth 100000
set_option maxHeartbeats 4000000
namespace UP
open PySem PySem.Spec PyProof.Rows L2
/-! ### who waits longest leaves first -/
def Srt (ws : List Run) (n : Nat) : Prop := ws.Pairwise (fun a b => a.2 < b.2) ∧ ∀ r ∈ ws, r.2 < (n : Int)
theorem Srt.step {ws : List Run} {n : Nat} {k : Str} (h : Srt ws n) : Srt (plS ws k n) (n + 1) := by
  cases ws with
  | nil =>
    refine ⟨List.pairwise_singleton _ _, fun r hr => ?_⟩
    rw [List.mem_singleton.mp (show r ∈ [(k, (n : Int))] from hr)]
    show (n : Int) < ((n + 1 : Nat) : Int)
    omega
  | cons r t =>
    by_cases c : r.1 = k
    · rw [show plS (r :: t) k n = (r :: t) ++ [(k, (n : Int))] from if_pos c]
      refine ⟨List.pairwise_append.mpr ⟨h.1, List.pairwise_singleton _ _, fun a ha b hb => ?_⟩, fun x hx => ?_⟩
      · rw [List.mem_singleton.mp hb]
        exact h.2 a ha
      · rcases List.mem_append.mp hx with z | z
        · have := h.2 x z
          omega
        · rw [List.mem_singleton.mp z]
          show (n : Int) < ((n + 1 : Nat) : Int)
          omega
    · rw [show plS (r :: t) k n = t from if_neg c]
      refine ⟨(List.pairwise_cons.mp h.1).2, fun x hx => ?_⟩
      have := h.2 x (List.mem_cons_of_mem _ hx)
      omega
theorem plS_low {ws : List Run} {n : Nat} {k : Str} {b : Int} (h : ∀ r ∈ ws, b < r.2) (hn : b < (n : Int)) : ∀ r ∈ plS ws k n, b < r.2 := by
  cases ws with
  | nil =>
    intro r hr
    rw [List.mem_singleton.mp (show r ∈ [(k, (n : Int))] from hr)]
    exact hn
  | cons r t =>
    by_cases c : r.1 = k
    · rw [show plS (r :: t) k n = (r :: t) ++ [(k, (n : Int))] from if_pos c]
      intro x hx
      rcases List.mem_append.mp hx with z | z
      · exact h x z
      · rw [List.mem_singleton.mp z]
        exact hn
    · rw [show plS (r :: t) k n = t from if_neg c]
      exact fun x hx => h x (List.mem_cons_of_mem _ hx)
theorem ps_low : ∀ (ks : List Str) (ws : List Run) (n : Nat) (b : Int), (∀ r ∈ ws, b < r.2) → b < (n : Int) → ∀ p ∈ psR ws n ks, b < p.1
  | [], _, _, _, _, _, p, hp => by cases hp
  | k :: t, ws, n, b, h, hn, p, hp => by
    rcases List.mem_append.mp (show p ∈ plP ws k n ++ psR (plS ws k n) (n + 1) t from hp) with z | z
    · cases ws with
      | nil => cases z
      | cons r u =>
        by_cases c : r.1 = k
        · rw [show plP (r :: u) k n = [] from if_pos c] at z
          cases z
        · rw [show plP (r :: u) k n = [(r.2, (n : Int))] from if_neg c] at z
          rw [List.mem_singleton.mp z]
          exact h r (List.mem_cons_self ..)
    · exact ps_low t _ _ b (plS_low h hn) (by omega) p z
theorem ps_fifo : ∀ (ks : List Str) (ws : List Run) (n : Nat), Srt ws n → (psR ws n ks).Pairwise fun p q => p.1 < q.1
  | [], _, _, _ => List.Pairwise.nil
  | k :: t, ws, n, h => by
    show (plP ws k n ++ psR (plS ws k n) (n + 1) t).Pairwise _
    have ih := ps_fifo t (plS ws k n) (n + 1) h.step
    cases ws with
    | nil => exact ih
    | cons r u =>
      by_cases c : r.1 = k
      · rw [show plP (r :: u) k n = [] from if_pos c]
        exact ih
      · rw [show plP (r :: u) k n = [(r.2, (n : Int))] from if_neg c]
        refine List.Pairwise.cons (fun q hq => ?_) ih
        rw [show plS (r :: u) k n = u from if_neg c] at hq
        have := h.2 r (List.mem_cons_self ..)
        exact ps_low t u (n + 1) r.2 (fun x hx => (List.pairwise_cons.mp h.1).1 x hx) (by omega) q hq
theorem ps_both (ks : List Str) : (psR [] 0 ks).Pairwise fun p q => p.1 < q.1 ∧ p.2 < q.2 :=
  List.pairwise_and_iff.mpr ⟨ps_fifo ks [] 0 ⟨List.Pairwise.nil, fun r hr => (by cases hr)⟩, ps_sorted ks [] 0⟩
/-- pairs do not stand inside each other -/
theorem not_inside {P : List Pr} (h : P.Pairwise fun p q => p.1 < q.1 ∧ p.2 < q.2) {p q : Pr} (hp : p ∈ P) (hq : q ∈ P) : ¬ (p.1 < q.1 ∧ q.2 < p.2) := by
  intro z
  induction P with
  | nil => cases hp
  | cons x t ih =>
    have h := List.pairwise_cons.mp h
    rcases List.mem_cons.mp hp with e | e <;> rcases List.mem_cons.mp hq with f | f
    · rw [e, f] at z
      omega
    · have := h.1 q f
      rw [e] at z
      omega
    · have := h.1 p e
      rw [f] at z
      omega
    · exact ih h.2 e f
theorem pg_some {B : List Blk} {m o : Int} (hB : PosB B) (u : U (flB B)) (h : pgR B m = some o) : ∃ p ∈ flB B, (p.1 = m ∧ p.2 = o) ∨ (p.2 = m ∧ p.1 = o) := by
  by_cases c : ∃ p ∈ flB B, p.1 = m ∨ p.2 = m
  · obtain ⟨p, hp, e | e⟩ := c
    · refine ⟨p, hp, .inl ⟨e, ?_⟩⟩
      have := pg_first B p hB u hp
      rw [e, h] at this
      exact (Option.some.inj this).symm
    · refine ⟨p, hp, .inr ⟨e, ?_⟩⟩
      have := pg_second B p hB u hp
      rw [e, h] at this
      exact (Option.some.inj this).symm
  · exfalso
    have := pg_none B m hB fun p hp => ⟨fun z => c ⟨p, hp, .inl z⟩, fun z => c ⟨p, hp, .inr z⟩⟩
    rw [h] at this
    cases this
/-! ### in which range -/
theorem flP_mem {p : Rg} {x : Int} (h : x ∈ flP p) : p.1 ≤ x ∧ x ≤ p.2 := by
  have := posL_ge _ _ x h
  omega
theorem gd_low {b : Int} : ∀ {R : List Rg} {p : Rg}, Gd (p :: R) b → ∀ q ∈ R, p.2 < q.1
  | [], _, _, q, hq => by cases hq
  | r :: t, p, g, q, hq => by
    have h1 := g.2.2.1 r rfl
    rcases List.mem_cons.mp hq with e | e
    · rw [e]
      omega
    · have h2 := gd_low g.2.2.2 q e
      have h3 := g.2.2.2.1
      omega
def inRg (x : Int) (p : Rg) : Bool := decide (p.1 ≤ x) && decide (x ≤ p.2)
theorem gd_one {b x : Int} : ∀ {R : List Rg}, Gd R b → x ∈ flR R → (R.filter (inRg x)).length = 1
  | [], _, h => by cases h
  | p :: t, g, h => by
    rw [flR_cons] at h
    have lo := gd_low g
    by_cases c : p.1 ≤ x ∧ x ≤ p.2
    · have n0 : t.filter (inRg x) = [] := by
        rw [List.filter_eq_nil_iff]
        intro q hq z
        unfold inRg at z
        rw [Bool.and_eq_true] at z
        have := lo q hq
        have := of_decide_eq_true z.1
        omega
      rw [List.filter_cons, if_pos (by unfold inRg; rw [decide_eq_true c.1, decide_eq_true c.2]; rfl), n0]
      rfl
    · rw [List.filter_cons, if_neg (by
        intro z
        unfold inRg at z
        rw [Bool.and_eq_true] at z
        exact c ⟨of_decide_eq_true z.1, of_decide_eq_true z.2⟩)]
      rcases List.mem_append.mp h with z | z
      · exact absurd (flP_mem z) c
      · exact gd_one g.2.2.2 z
theorem must_wait {rs : List Run} {m : Int} (k : ∀ r ∈ rs, 1 ≤ r.2) (h0 : 0 ≤ m) (h1 : m < lenR rs) (h : ∀ p ∈ psR [] 0 (itR rs), p.1 ≠ m ∧ p.2 ≠ m) : m ∈ psW (plA [] 0 (itR rs)) := by
  have l := len_it rs k
  have pm := ps_perm (itR rs) [] 0
  have hm : m ∈ psW [] ++ posL ((0 : Nat) : Int) (itR rs).length := List.mem_append.mpr (.inr (posL_mem (by omega) (by omega)))
  rcases List.mem_append.mp (pm.mem_iff.mpr hm) with z | z
  · obtain ⟨p, hp, e⟩ := List.mem_map.mp z
    exact absurd e (h p hp).1
  · rcases List.mem_append.mp z with z | z
    · obtain ⟨p, hp, e⟩ := List.mem_map.mp z
      exact absurd e (h p hp).2
    · exact z
/-! ### blocks are as large as can be -/
def NoJ (B : List Blk) : Prop := ∀ (i : Nat) (x y : Blk), B[i]? = some x → B[i + 1]? = some y → ¬ (x.1 + x.2.2 = y.1 ∧ x.2.1 + x.2.2 = y.2.1)
theorem noj_add {B : List Blk} (h : NoJ B) (x : Blk) : NoJ (addB B x) := by
  rcases List.eq_nil_or_concat B with e | ⟨B0, l, e⟩
  · subst e
    intro i a b ha hb
    cases i with
    | zero => cases hb
    | succ n => cases hb
  · rw [List.concat_eq_append] at e
    subst e
    by_cases c : l.1 + l.2.2 = x.1 ∧ l.2.1 + l.2.2 = x.2.1
    · rw [addB_join c]
      intro i a b ha hb
      by_cases ci : i + 1 < B0.length
      · rw [List.getElem?_append_left (by omega)] at ha
        rw [List.getElem?_append_left ci] at hb
        exact h i a b (by rw [List.getElem?_append_left (by omega)]; exact ha) (by rw [List.getElem?_append_left ci]; exact hb)
      · rw [List.getElem?_append_right (by omega)] at hb
        obtain ⟨q1, q2⟩ : i + 1 - B0.length = 0 ∧ b = (l.1, l.2.1, l.2.2 + x.2.2) := by
          cases e1 : i + 1 - B0.length with
          | zero =>
            rw [e1] at hb
            exact ⟨rfl, (Option.some.inj hb).symm⟩
          | succ n =>
            rw [e1] at hb
            cases hb
        have hi : i < B0.length := by omega
        rw [List.getElem?_append_left hi] at ha
        have := h i a l (by rw [List.getElem?_append_left hi]; exact ha) (by rw [show i + 1 = B0.length by omega]; exact List.getElem?_concat_length)
        rw [q2]
        exact this
    · rw [addB_new c]
      intro i a b ha hb
      by_cases ci : i + 1 < (B0 ++ [l]).length
      · rw [List.getElem?_append_left (by omega)] at ha
        rw [List.getElem?_append_left ci] at hb
        exact h i a b ha hb
      · rw [List.getElem?_append_right (by omega)] at hb
        have q2 : i + 1 - (B0 ++ [l]).length = 0 ∧ b = x := by
          cases e1 : i + 1 - (B0 ++ [l]).length with
          | zero =>
            rw [e1] at hb
            exact ⟨rfl, (Option.some.inj hb).symm⟩
          | succ n =>
            rw [e1] at hb
            cases hb
        have hi : i = B0.length := by
          have := q2.1
          rw [List.length_append, List.length_singleton] at ci this
          omega
        rw [List.getElem?_append_left (by rw [List.length_append, List.length_singleton]; omega), hi, List.getElem?_concat_length] at ha
        have ha := Option.some.inj ha
        rw [q2.2, ← ha]
        exact c
theorem noj_bl {rs : List Run} (k : ∀ r ∈ rs, 1 ≤ r.2) (a : Alt rs) : NoJ (blR rs) := by
  rw [whole_units k a]
  have gen : ∀ (P : List Pr) (B : List Blk), NoJ B → NoJ (addU B P) := by
    intro P
    induction P with
    | nil => exact fun B h => h
    | cons p t ih => exact fun B h => ih _ (noj_add h _)
  exact gen _ [] fun i x y hx hy => by cases hx
theorem blk_next {its : List Str} {B : List Blk} (hB : PosB B) (e : flB B = psR [] 0 its) {i : Nat} {x y : Blk} (hx : B[i]? = some x) (hy : B[i + 1]? = some y) : x.1 + x.2.2 ≤ y.1 ∧ x.2.1 + x.2.2 ≤ y.2.1 := by
  have hb := ps_both its
  rw [← e] at hb
  have d : B = B.take i ++ (x :: y :: B.drop (i + 1 + 1)) := by
    rw [← drop_at hy, ← drop_at hx, List.take_append_drop]
  rw [d, flB_app] at hb
  have hb := (List.pairwise_append.mp hb).2.1
  rw [show flB (x :: y :: B.drop (i + 1 + 1)) = flX x ++ (flX y ++ flB (B.drop (i + 1 + 1))) from rfl] at hb
  have hb := (List.pairwise_append.mp hb).2.2
  have px := hB x (List.mem_of_getElem? hx)
  have py := hB y (List.mem_of_getElem? hy)
  have := hb (x.1 + x.2.2 - 1, x.2.1 + x.2.2 - 1) ((mem_fl px _).mpr ⟨by show x.1 ≤ x.1 + x.2.2 - 1; omega, by show x.1 + x.2.2 - 1 < _; omega, by show x.2.1 + x.2.2 - 1 = x.2.1 + (x.1 + x.2.2 - 1) - x.1; omega⟩) (y.1, y.2.1) (List.mem_append.mpr (.inl ((mem_fl py _).mpr ⟨Int.le_refl _, by show y.1 < y.1 + y.2.2; omega, by show y.2.1 = y.2.1 + y.1 - y.1; omega⟩)))
  have h1 : x.1 + x.2.2 - 1 < y.1 := this.1
  have h2 : x.2.1 + x.2.2 - 1 < y.2.1 := this.2
  omega
/-! ### the first of the longest waits -/
theorem lw_first : ∀ (B : List Blk), B ≠ [] → ∃ (j : Nat) (x : Blk), B[j]? = some x ∧ lwR B = some (x.1, x.2.1) ∧ (∀ y ∈ B, y.2.1 - y.1 ≤ x.2.1 - x.1) ∧ ∀ (i : Nat) (y : Blk), i < j → B[i]? = some y → y.2.1 - y.1 < x.2.1 - x.1 := by
  intro B
  have gen : ∀ (n : Nat) (B : List Blk), B.length = n + 1 → ∃ (j : Nat) (x : Blk), B[j]? = some x ∧ lwR B = some (x.1, x.2.1) ∧ (∀ y ∈ B, y.2.1 - y.1 ≤ x.2.1 - x.1) ∧ ∀ (i : Nat) (y : Blk), i < j → B[i]? = some y → y.2.1 - y.1 < x.2.1 - x.1 := by
    intro n
    induction n with
    | zero =>
      intro B hl
      obtain ⟨x, rfl⟩ : ∃ x, B = [x] := by
        cases B with
        | nil => cases hl
        | cons x t =>
          cases t with
          | nil => exact ⟨x, rfl⟩
          | cons y u => cases hl
      exact ⟨0, x, rfl, rfl, fun y hy => by rw [List.mem_singleton.mp hy]; exact Int.le_refl _, fun i y hi => by omega⟩
    | succ n ih =>
      intro B hl
      rcases List.eq_nil_or_concat B with e | ⟨C, l, e⟩
      · subst e
        cases hl
      · rw [List.concat_eq_append] at e
        subst e
        have lc : C.length = n + 1 := by
          rw [List.length_append] at hl
          exact Nat.succ.inj hl
        obtain ⟨j, x, hj, lw, mx, fs⟩ := ih C lc
        have jl : j < C.length := (List.getElem?_eq_some_iff.mp hj).1
        rw [lwR_snoc, lw]
        by_cases c : x.2.1 - x.1 < l.2.1 - l.1
        · refine ⟨C.length, l, List.getElem?_concat_length, if_pos c, fun y hy => ?_, fun i y hi hy => ?_⟩
          · rcases List.mem_append.mp hy with z | z
            · have := mx y z
              omega
            · rw [List.mem_singleton.mp z]
              exact Int.le_refl _
          · rw [List.getElem?_append_left hi] at hy
            have := mx y (List.mem_of_getElem? hy)
            omega
        · refine ⟨j, x, by rw [List.getElem?_append_left jl]; exact hj, if_neg c, fun y hy => ?_, fun i y hi hy => ?_⟩
          · rcases List.mem_append.mp hy with z | z
            · exact mx y z
            · rw [List.mem_singleton.mp z]
              omega
          · rw [List.getElem?_append_left (by omega)] at hy
            exact fs i y hi hy
  intro ne
  cases e : B.length with
  | zero => exact absurd (List.eq_nil_of_length_eq_zero e) ne
  | succ n => exact gen n B e
/-! ### the first part of a sequence -/
theorem cut_all {s e : Int} : ∀ (l : List Run) (b : Int), s ≤ b → b + lenR l ≤ e → (∀ r ∈ l, 1 ≤ r.2) → cutR s e b l = l
  | [], _, _, _, _ => rfl
  | r :: t, b, h1, h2, k => by
    have kr := k r (List.mem_cons_self ..)
    have nt : 0 ≤ lenR t := by
      have := len_it t fun x hx => k x (List.mem_cons_of_mem _ hx)
      omega
    rw [lenR_cons] at h2
    show pieceR b s e r ++ cutR s e (b + r.2) t = r :: t
    rw [cut_all t (b + r.2) (by omega) (by omega) fun x hx => k x (List.mem_cons_of_mem _ hx)]
    have sz : sizeR b s e r.2 = r.2 := by
      unfold sizeR
      split <;> split <;> omega
    unfold pieceR
    rw [sz, if_pos (by omega)]
    rfl
theorem part_len {rs : List Run} {m : Int} (k : ∀ r ∈ rs, 1 ≤ r.2) (h0 : 0 ≤ m) (h1 : m ≤ lenR rs) : itR (cutR 0 m 0 rs) = (itR rs).take m.toNat ∧ lenR (cutR 0 m 0 rs) = m ∧ cutR 0 m 0 (cutR 0 m 0 rs) = cutR 0 m 0 rs := by
  have l := len_it rs k
  have e : itR (cutR 0 m 0 rs) = (itR rs).take m.toNat := by
    rw [cut_items _ _ _ (Int.le_refl _) k, Int.sub_zero]
  have l2 := len_it (cutR 0 m 0 rs) cutR_pos
  rw [e, List.length_take] at l2
  have e2 : lenR (cutR 0 m 0 rs) = m := by omega
  exact ⟨e, e2, cut_all _ _ (Int.le_refl _) (by omega) cutR_pos⟩
end UP

set_option Elab.async false
set_option linter.all false
set_option maxRecDepth 100000
set_option maxHeartbeats 4000000
namespace UP
open PySem PySem.Spec PyProof.Rows L2
theorem len_bd {rs : List Run} (ok : SeqOk rs) : lenR rs ≤ 100000000000000000000000000000000000 := by
  have gen : ∀ l : List Run, (∀ r ∈ l, r.2 ≤ 1000000000000000000000000000000) → lenR l ≤ 1000000000000000000000000000000 * (l.length : Int) := by
    intro l
    induction l with
    | nil => intro _; exact Int.le_of_eq rfl
    | cons r t ih =>
      intro k
      have h1 := k r (List.mem_cons_self ..)
      have h2 := ih fun x hx => k x (List.mem_cons_of_mem _ hx)
      rw [lenR_cons, List.length_cons, Int.natCast_add, Int.mul_add]
      have e : (1000000000000000000000000000000 : Int) * ((1 : Nat) : Int) = 1000000000000000000000000000000 := Int.mul_one _
      omega
  have := gen rs fun r hr => (ok.2.1 r hr).2.2
  have := ok.1
  omega
section
variable {P : Program} {w : World} {K : PySem.W.Frag} {mg : Str → Option Value} {base : Heap}
/-! _law_place: slots 0:spring 1:sequence 2:length 3:at 4:end 5:near 6:anywhere 7:kind 8:count -/
abbrev s_law_place : Stmt := topS 54
theorem sc_law_place : FnScope ["spring", "sequence", "length", "at", "end", "near", "anywhere", "kind", "count"] ["spring", "sequence", "length"] (defScope s_law_place) := ⟨rfl, rfl, rfl, by decide +kernel, rfl, by decide +kernel, by decide +kernel⟩
def sp_law_place : Sp := fun vs H Q _ => ∃ (sp a : Addr) (rs : List Run), vs = [.ref sp, .ref a, .int (lenR rs)] ∧ Spr H sp ∧ Runs H a rs ∧ SeqOk rs ∧ 1 ≤ lenR rs ∧ ∀ H' r, But sp H H' → Spr H' sp → 0 ≤ r → r < lenR rs → Q (.int r) H'
theorem ok_law_place (D : Df K mg "_law_place" s_law_place) (T : Tx mg) (G_law_draw : Has P w K mg base 1 "_law_draw" ["spring", "many"] sp_law_draw) : Has P w K mg base 2 "_law_place" ["spring", "sequence", "length"] sp_law_place := by
  refine has_of D sc_law_place (fun _ _ _ _ _ _ us hl => match us, hl with | [_, _, _], _ => rfl) (fun vs H Q E h => ?_) (fun f cdv A outer s₀ H vs Q E hr h => ?_)
  · obtain ⟨_, _, _, rfl, _⟩ := h
    rfl
  · obtain ⟨sp, a, rs, rfl, z0, hR, ok, l1, q⟩ := h
    have bd := len_bd ok
    obtain ⟨xs, hx, hp⟩ := id hR
    have lx : xs.length = rs.length := Paired.len hp
    have l4 := ok.1
    refine ⟨_, (pss_cons (ps_set (i := 3) sc_law_place.nd rfl (by first | exact Or.inl rfl | exact Or.inr rfl) (pe_callH G_law_draw (hr.mono (by omega)) (by rfl) (pa_cons (pv 0) (pa_cons (pe_op op_add (pe_callB call_len_seq (by rfl) T.n_len (by decide +kernel) (pa_cons (pv 1) pa_nil)) pe_int) pa_nil))))
    (pss_cons (ps_set (i := 4) sc_law_place.nd rfl (by first | exact Or.inl rfl | exact Or.inr rfl) (pe_callB (cr_sum rfl) (by rfl) T.n_sum (by decide +kernel) (pa_cons (pe_lc (own := [("kind", 7), ("count", 8)]) rfl sc_law_place.nd (pi_list (pe_slice sl_list (pv 1) po_none (po_some (pv 3)))) (blkOk_by (N := ["spring", "sequence", "length", "at", "end", "near", "anywhere", "kind", "count"]) (sc := defScope s_law_place) (by decide +kernel)) (fun _ _ _ _ _ => (pg_tupK (K := K) (n := 2) rfl rfl (pgs_cons (pg_name (i := 7) sc_law_place.nd rfl (by first | exact Or.inl rfl | exact Or.inr rfl)) (pgs_cons (pg_name (i := 8) sc_law_place.nd rfl (by first | exact Or.inl rfl | exact Or.inr rfl)) pgs_nil)))) (fun _ _ _ _ _ => pts_nil) (fun _ _ _ _ _ => (pv 8))) pa_nil)))
    (pss_cons (ps_set (i := 5) sc_law_place.nd rfl (by first | exact Or.inl rfl | exact Or.inr rfl) (pe_op op_add (pe_op op_sub (pv 4) pe_int) (pe_callH G_law_draw (hr.mono (by omega)) (by rfl) (pa_cons (pv 0) (pa_cons pe_int pa_nil)))))
    (pss_cons (ps_set (i := 6) sc_law_place.nd rfl (by first | exact Or.inl rfl | exact Or.inr rfl) (pe_callH G_law_draw (hr.mono (by omega)) (by rfl) (pa_cons (pv 0) (pa_cons (pv 2) pa_nil))))
    (pss_one (ps_ret (pe_ix ix_list (pe_lst (pa_cons (pe_callB (call_min2 rfl) (by rfl) T.n_min (by decide +kernel) (pa_cons (pe_op op_sub (pv 2) pe_int) (pa_cons (pe_callB (call_max2 rfl) (by rfl) T.n_max (by decide +kernel) (pa_cons pe_int (pa_cons (pv 5) pa_nil))) pa_nil))) (pa_cons (pv 6) pa_nil))) (pe_callH G_law_draw (hr.mono (by omega)) (by rfl) (pa_cons (pv 0) (pa_cons pe_int pa_nil))) (fun _ _ => rfl)))))))), ?_⟩
    refine ⟨_, rfl, _, rfl, a, _, rfl, .inl (.of hx), _, _, rfl, rfl, sp, _, rfl, z0, by omega, wide8 (by omega) (by omega), fun H1 r1 b1 z1 g0 g1 => ?_⟩
    have hx3 : H1 a = some (.lst xs) := b1 _ _ (Runs.ne z0 hR) hx
    have hp3 : Paired (RunV H1) xs rs := Paired.imp (fun _ _ z => RunV.but z0 b1 z) hp
    refine ⟨_, rfl, _, rfl, r1, rfl, a, xs, rfl, .of hx3, fun c nc => ?_⟩
    have lc := cutV_length xs none (some r1)
    have sc := same_upd (o := .lst (cutV xs none (some r1))) nc
    have hc4 : (upd H1 c (.lst (cutV xs none (some r1)))) c = some (.lst (cutV xs none (some r1))) := upd_same
    refine ⟨c, rfl, ⟨_, .of upd_same⟩, fun M nM => lc_list (K := K) (a := c) (xs := cutV xs none (some r1)) (fun i H' => Same (upd H1 c (.lst (cutV xs none (some r1)))) H' ∧ ∃ ns : List Int, ns.length = i ∧ H' M = some (.lst (ns.map V.int))) ⟨same_upd nM, [], rfl, upd_same⟩ (fun i H' _ p => .of (p.1 _ _ hc4)) (fun i x H4 ex p => ?_) (fun H4 p => ?_)⟩
    · obtain ⟨sm, ns, ln, hM⟩ := p
      have hi : i < (cutV xs none (some r1)).length := (List.getElem?_eq_some_iff.mp ex).1
      obtain ⟨k, ey⟩ : ∃ k : Nat, xs[k]? = some x := by
        unfold cutV at ex
        rw [List.getElem?_take] at ex
        split at ex
        · rw [List.getElem?_drop] at ex
          exact ⟨_, ex⟩
        · cases ex
      obtain ⟨r, er, hr1⟩ := Paired.at hp3 ey
      obtain ⟨t, rfl, ht⟩ := RunV.same (sc.trans sm) hr1
      refine ⟨t, _, rfl, .of ht, rfl, _, _, rfl, _, _, rfl, rfl, rfl, yesT ⟨_, rfl, _, hM, ?_, same_grow nM sm, ns ++ [r.2], ?_, ?_⟩⟩
      · rw [List.length_map]
        exact small (by omega)
      · rw [List.length_append, ln]
        rfl
      · rw [upd_same, List.map_append]
        rfl
    obtain ⟨sm, ns, ln, hM⟩ := p
    refine ⟨M, ns, rfl, .of hM, ?_⟩
    have z4 := (z1.same sc).same sm
    -- near, anywhere
    refine ⟨_, rfl, _, _, rfl, rfl, _, rfl, sp, 3, rfl, z4, by decide, by decide, fun H5 r5 b5 z5 r50 r51 => ⟨_, _, rfl, rfl, ?_⟩⟩
    refine ⟨_, rfl, _, rfl, sp, _, rfl, z5, (by show 1 ≤ lenR rs; omega), wide8 (by show 0 ≤ lenR rs; omega) (by show lenR rs ≤ _; omega), fun H6 r6 b6 z6 r60 r61 => ?_⟩
    have r61 : r6 < lenR rs := r61
    refine ⟨_, rfl, _, _, rfl, rfl, _, rfl, _, _, rfl, _, _, rfl, _, rfl, (by show 2 ≤ sizeLine; decide), fun l nl => ?_⟩
    refine ⟨_, rfl, sp, 2, rfl, z6.same (same_upd nl), by decide, by decide, fun H7 r7 b7 z7 r70 r71 => ?_⟩
    have hb : But sp H H7 := b1.trans ((Same.but sc).trans ((Same.but sm).trans (b5.trans (b6.trans ((Same.but (same_upd nl)).trans b7)))))
    by_cases h : r7 = 0
    · subst h
      refine ⟨l, _, 0, _, rfl, rfl, .of (b7 _ _ (Spr.ne z6 nl) upd_same), rfl, q _ _ hb z7 ?_ ?_⟩
      · show 0 ≤ (if (if ns.sum - 1 + r5 > 0 then ns.sum - 1 + r5 else 0) < lenR rs - 1 then (if ns.sum - 1 + r5 > 0 then ns.sum - 1 + r5 else 0) else lenR rs - 1)
        split
        · split <;> omega
        · omega
      · show (if (if ns.sum - 1 + r5 > 0 then ns.sum - 1 + r5 else 0) < lenR rs - 1 then (if ns.sum - 1 + r5 > 0 then ns.sum - 1 + r5 else 0) else lenR rs - 1) < lenR rs
        split
        · omega
        · omega
    · have e : r7 = 1 := by omega
      subst e
      exact ⟨l, _, 1, _, rfl, rfl, .of (b7 _ _ (Spr.ne z6 nl) upd_same), rfl, q _ _ hb z7 r60 r61⟩
end
end UP

set_option Elab.async false
set_option linter.all false
set_option maxRecDepth 100000
set_option maxHeartbeats 4000000
namespace UP
open PySem PySem.Spec PyProof.Rows L2
theorem min_max {p : Pr} {m o : Int} (l : p.1 < p.2) (h : (p.1 = m ∧ p.2 = o) ∨ (p.2 = m ∧ p.1 = o)) : (if o < m then o else m) = p.1 ∧ (if o > m then o else m) = p.2 := by
  rcases h with ⟨h1, h2⟩ | ⟨h1, h2⟩
  · rw [if_neg (by omega), if_pos (by omega)]
    exact ⟨h1.symm, h2.symm⟩
  · rw [if_pos (by omega), if_neg (by omega)]
    exact ⟨h2.symm, h1.symm⟩
theorem shaped_one (p : Pr) : SeqAt.shaped (dPr p) = true := by
  unfold SeqAt.shaped dPr
  simp [PyData.canLay0, PyData.canLayAll0, PyData.depth, PyData.depthAll]
theorem eqv_one (p q : Pr) : PyData.eqv (dPr p) (dPr q) = decide (p = q) := by
  unfold dPr
  rw [PyData.eqv, PyData.eqvAll, PyData.eqvAll, PyData.eqvAll, PyData.eqv, PyData.eqv]
  by_cases c : p = q
  · subst c
    simp
  · have : ¬ (p.1 = q.1 ∧ p.2 = q.2) := fun z => c (Prod.ext z.1 z.2)
    rw [decide_eq_false c]
    by_cases c1 : p.1 = q.1
    · have c2 : ¬ p.2 = q.2 := fun z => this ⟨c1, z⟩
      simp [c1, c2]
    · simp [c1]
theorem dp_one {K : PySem.W.Frag} {H : Hp} {v : V} {p : Pr} (h : PV H v p) : Dp K H v (dPr p) := by
  obtain ⟨t, rfl, h⟩ := h
  exact .tup (.of h) (.cons (.int _) (.cons (.int _) .nil))
section
variable {P : Program} {w : World} {K : PySem.W.Frag} {mg : Str → Option Value} {base : Heap}
/-! _law_pair_right: slots 0:spring 1:sequence 2:place 3:other 4:index 5:between 6:friend 7:ranges 8:first 9:second 10:kind 11:count 12:last -/
abbrev s_law_pair_right : Stmt := topS 55
theorem sc_law_pair_right : FnScope ["spring", "sequence", "place", "other", "index", "between", "friend", "ranges", "first", "second", "kind", "count", "last"] ["spring", "sequence", "place"] (defScope s_law_pair_right) := ⟨rfl, rfl, rfl, by decide +kernel, rfl, by decide +kernel, by decide +kernel⟩
def sp_law_pair_right : Sp := fun vs H Q _ => ∃ (sp a : Addr) (rs : List Run) (m : Int), vs = [.ref sp, .ref a, .int m] ∧ Spr H sp ∧ Runs H a rs ∧ SeqOk rs ∧ 0 ≤ m ∧ m < lenR rs ∧ ∀ H', But sp H H' → Spr H' sp → Q (.bl true) H'
theorem ok_law_pair_right (D : Df K mg "_law_pair_right" s_law_pair_right) (T : Tx mg) (G_law_draw : Has P w K mg base 1 "_law_draw" ["spring", "many"] sp_law_draw) (G_nth_pair : Has P w K mg base 6 "nth_pair" ["sequence", "index"] sp_nth_pair) (G_partner_of : Has P w K mg base 6 "partner_of" ["sequence", "position"] sp_partner_of) (G_kind_at : Has P w K mg base 6 "kind_at" ["sequence", "position"] sp_kind_at)
    (G_state_at : HasD P w K mg base 6 "state_at" ["sequence", "moment", "state"] 2 "state" sp_state_at) (G_waiting_at : Has P w K mg base 6 "waiting_at" ["sequence", "moment"] sp_waiting_at) (G_pair_count : HasD P w K mg base 6 "pair_count" ["sequence", "moment"] 1 "moment" sp_pair_count) :
    Has P w K mg base 7 "_law_pair_right" ["spring", "sequence", "place"] sp_law_pair_right := by
  refine has_of D sc_law_pair_right (fun _ _ _ _ _ _ us hl => match us, hl with | [_, _, _], _ => rfl) (fun vs H Q E h => ?_) (fun f cdv A outer s₀ H vs Q E hr h => ?_)
  · obtain ⟨_, _, _, _, rfl, _⟩ := h
    rfl
  · obtain ⟨sp, a, rs, m, rfl, z0, hR, ok, m0, m1, q⟩ := h
    have pos : ∀ r ∈ rs, 1 ≤ r.2 := fun r hr => (ok.2.1 r hr).2.1
    have lenq := len_it rs pos
    have bd := len_bd ok
    obtain ⟨wp, wb⟩ := whole_pairs pos ok.2.2
    have up := u_ps (itR rs)
    have upf : U (flB (blR rs)) := by rw [wp]; exact up
    have l4 := ok.1
    refine ⟨_, (pss_cons (ps_set (i := 3) sc_law_pair_right.nd rfl (by first | exact Or.inl rfl | exact Or.inr rfl) (pe_callH G_partner_of (hr.mono (by omega)) (by rfl) (pa_cons (pv 1) (pa_cons (pv 2) pa_nil))))
    (pss_cons (ps_if (pt_cmpR op_isN (pv 3) pe_non (nomark _)) (pss_cons (ps_set (i := 7) sc_law_pair_right.nd rfl (by first | exact Or.inl rfl | exact Or.inr rfl) (pe_callH G_waiting_at (hr.mono (by omega)) (by rfl) (pa_cons (pv 1) (pa_cons (pe_callB (cr_sum rfl) (by rfl) T.n_sum (by decide +kernel) (pa_cons (pe_lc (own := [("kind", 10), ("count", 11)]) rfl sc_law_pair_right.nd (pi_list (pv 1)) (blkOk_by (N := ["spring", "sequence", "place", "other", "index", "between", "friend", "ranges", "first", "second", "kind", "count", "last"]) (sc := defScope s_law_pair_right) (by decide +kernel)) (fun _ _ _ _ _ => (pg_tupK (K := K) (n := 2) rfl rfl (pgs_cons (pg_name (i := 10) sc_law_pair_right.nd rfl (by first | exact Or.inl rfl | exact Or.inr rfl)) (pgs_cons (pg_name (i := 11) sc_law_pair_right.nd rfl (by first | exact Or.inl rfl | exact Or.inr rfl)) pgs_nil)))) (fun _ _ _ _ _ => pts_nil) (fun _ _ _ _ _ => (pv 11))) pa_nil)) pa_nil))))
    (pss_one (ps_ret (pe_cmpR op_eq (pe_callB call_len_seq (by rfl) T.n_len (by decide +kernel) (pa_cons (pe_lc (own := [("first", 8), ("last", 12)]) rfl sc_law_pair_right.nd (pi_list (pv 7)) (blkOk_by (N := ["spring", "sequence", "place", "other", "index", "between", "friend", "ranges", "first", "second", "kind", "count", "last"]) (sc := defScope s_law_pair_right) (by decide +kernel)) (fun _ _ _ _ _ => (pg_tupK (K := K) (n := 2) rfl rfl (pgs_cons (pg_name (i := 8) sc_law_pair_right.nd rfl (by first | exact Or.inl rfl | exact Or.inr rfl)) (pgs_cons (pg_name (i := 12) sc_law_pair_right.nd rfl (by first | exact Or.inl rfl | exact Or.inr rfl)) pgs_nil)))) (fun _ _ _ _ _ => pts_one (pt_chain op_le op_le (pv 8) (pv 2) (pv 12))) (fun _ _ _ _ _ => pe_int)) pa_nil)) pe_int (nomark _))))) pss_nil)
    (pss_cons (ps_par (i := 8) (j := 9) (by rfl) sc_law_pair_right.nd rfl rfl (by decide) rfl rfl (pa_cons (pe_callB (call_min2 rfl) (by rfl) T.n_min (by decide +kernel) (pa_cons (pv 2) (pa_cons (pv 3) pa_nil))) (pa_cons (pe_callB (call_max2 rfl) (by rfl) T.n_max (by decide +kernel) (pa_cons (pv 2) (pa_cons (pv 3) pa_nil))) pa_nil)) (by rfl))
    (pss_cons (ps_if (PW.pt (pw_or (pt_cmpR op_ne (pe_callH G_partner_of (hr.mono (by omega)) (by rfl) (pa_cons (pv 1) (pa_cons (pv 3) pa_nil))) (pv 2) (nomark _)) (pw_or1 (pt_cmpR op_eq (pe_callH G_kind_at (hr.mono (by omega)) (by rfl) (pa_cons (pv 1) (pa_cons (pv 8) pa_nil))) (pe_callH G_kind_at (hr.mono (by omega)) (by rfl) (pa_cons (pv 1) (pa_cons (pv 9) pa_nil))) (nomark _))))) (pss_one (ps_ret pe_bl)) pss_nil)
    (pss_cons (ps_set (i := 4) sc_law_pair_right.nd rfl (by first | exact Or.inl rfl | exact Or.inr rfl) (pe_callH G_pair_count.has (hr.mono (by omega)) (by rfl) (pa_cons (pv 1) (pa_cons (pv 9) pa_nil))))
    (pss_cons (ps_if (PW.pt (pw_or (pt_cmpR (op_neD hr.units) (pe_callH G_nth_pair (hr.mono (by omega)) (by rfl) (pa_cons (pv 1) (pa_cons (pv 4) pa_nil))) (pe_tup (pa_cons (pv 8) (pa_cons (pv 9) pa_nil))) (nomark _)) (pw_or1 (pt_cmpR op_ne (pe_callH G_pair_count.has (hr.mono (by omega)) (by rfl) (pa_cons (pv 1) (pa_cons (pe_op op_add (pv 9) pe_int) pa_nil))) (pe_op op_add (pv 4) pe_int) (nomark _))))) (pss_one (ps_ret pe_bl)) pss_nil)
    (pss_cons (ps_if (PW.pt (pw_or (pt_cmpR op_ne (pe_ix ix_tup (pe_ix ix_list (pe_callH G_waiting_at (hr.mono (by omega)) (by rfl) (pa_cons (pv 1) (pa_cons (pv 9) pa_nil))) pe_int (fun _ _ => rfl)) pe_int (fun _ _ => rfl)) (pv 8) (nomark _)) (pw_or1 (pt_cmpR op_ne (pe_ix ix_tup (pe_callDH G_state_at (hr.mono (by omega)) (by rfl) (pa_cons (pv 1) (pa_cons (pv 9) pa_nil))) pe_int (fun _ _ => rfl)) (pe_callH G_kind_at (hr.mono (by omega)) (by rfl) (pa_cons (pv 1) (pa_cons (pv 8) pa_nil))) (nomark _))))) (pss_one (ps_ret pe_bl)) pss_nil)
    (pss_cons (ps_set (i := 5) sc_law_pair_right.nd rfl (by first | exact Or.inl rfl | exact Or.inr rfl) (pe_op op_add (pv 8) (pe_callH G_law_draw (hr.mono (by omega)) (by rfl) (pa_cons (pv 0) (pa_cons (pe_op op_sub (pv 9) (pv 8)) pa_nil)))))
    (pss_cons (ps_set (i := 6) sc_law_pair_right.nd rfl (by first | exact Or.inl rfl | exact Or.inr rfl) (pe_callH G_partner_of (hr.mono (by omega)) (by rfl) (pa_cons (pv 1) (pa_cons (pv 5) pa_nil))))
    (pss_one (ps_ret (pe_or (pe_cmpR op_eq (pv 5) (pv 8) (nomark _)) (pe_or (pe_cmpR op_isN (pv 6) pe_non (nomark _)) (pe_or (pe_cmpR op_lt (pv 6) (pv 8) (nomark _)) (pe_one (pe_cmpR op_gt (pv 6) (pv 9) (nomark _))))))))))))))))), ?_⟩
    refine ⟨_, rfl, _, rfl, .ref a, rs, m, rfl, hR.dress, ok, m0, m1, fun H1 s1 => ?_⟩
    have hR1 := hR.same s1
    have z1 := z0.same s1
    obtain ⟨xs, hx, hp⟩ := id hR1
    have lx : xs.length = rs.length := Paired.len hp
    cases hpg : pgR (blR rs) m with
    | none =>
      refine ⟨_, rfl, rfl, _, rfl, iteP rfl ?_⟩
      have nop : ∀ p ∈ psR [] 0 (itR rs), p.1 ≠ m ∧ p.2 ≠ m := by
        intro p hp
        have hpf : p ∈ flB (blR rs) := by rw [wp]; exact hp
        refine ⟨fun z => ?_, fun z => ?_⟩
        · have := pg_first _ _ wb upf hpf
          rw [z, hpg] at this
          cases this
        · have := pg_second _ _ wb upf hpf
          rw [z, hpg] at this
          cases this
      have wt := must_wait pos m0 m1 nop
      obtain ⟨fr, gb, gd⟩ := wa_flat (m := (itR rs).length) pos ok.2.2
      rw [lenq, List.take_length] at fr
      rw [lenq] at gd
      rw [← fr] at wt
      have one := gd_one gd wt
      refine ⟨_, rfl, _, rfl, a, rfl, ⟨xs, .of hx⟩, fun L nL => lc_list (K := K) (a := a) (xs := xs) (fun i H' => Same H1 H' ∧ H' L = some (.lst (((rs.map (·.2)).take i).map V.int))) ⟨same_upd nL, upd_same⟩ (fun i H' _ p => .of (p.1 _ _ hx)) (fun i x H2 ex p => ?_) (fun H2 p => ?_)⟩
      · obtain ⟨sm, hL⟩ := p
        obtain ⟨r, er, hr1⟩ := Paired.at hp ex
        have hi : i < xs.length := (List.getElem?_eq_some_iff.mp ex).1
        obtain ⟨t, rfl, ht⟩ := RunV.same sm hr1
        refine ⟨t, _, rfl, .of ht, rfl, _, _, rfl, _, _, rfl, rfl, rfl, yesT ⟨_, rfl, _, hL, ?_, same_grow nL sm, ?_⟩⟩
        · simp only [List.length_map, List.length_take]
          exact small (by omega)
        · rw [upd_same, take_snoc (x := r.2) (by rw [List.getElem?_map, er]; rfl), List.map_append]
          rfl
      obtain ⟨s2, hL⟩ := p
      rw [List.take_of_length_le (by rw [List.length_map]; omega)] at hL
      refine ⟨L, (rs.map (fun r : Run => r.2)), rfl, .of hL, .ref a, rs, lenR rs, rfl, (hR1.same s2).dress, ok, by omega, Int.le_refl _, fun H3 p3 s3 n3 h3 => ?_⟩
      generalize waR (cutR 0 (lenR rs) 0 rs) none 0 [] = R0 at *
      obtain ⟨x3, hx3, hp3⟩ := h3
      have lx3 : x3.length = R0.length := Paired.len hp3
      refine ⟨_, rfl, p3, rfl, ⟨x3, .of hx3⟩, fun M nM => lc_list (K := K) (a := p3) (xs := x3) (fun i H' => Same H3 H' ∧ H' M = some (.lst (List.replicate ((R0.take i).filter (inRg m)).length (V.int 1)))) ⟨same_upd nM, upd_same⟩ (fun i H' _ p => .of (p.1 _ _ hx3)) (fun i x H4 ex p => ?_) (fun H4 p => ?_)⟩
      · obtain ⟨sm, hM⟩ := p
        obtain ⟨k, ek, hk⟩ := Paired.at hp3 ex
        obtain ⟨t, rfl, ht⟩ := PV.same sm hk
        refine ⟨t, _, rfl, .of ht, rfl, _, _, rfl, _, _, rfl, rfl, ?_⟩
        have step : (R0.take (i + 1)).filter (inRg m) = (R0.take i).filter (inRg m) ++ (if inRg m k = true then [k] else []) := by
          rw [take_snoc ek, List.filter_append, List.filter_cons, List.filter_nil]
        refine ⟨rfl, _, rfl, _, rfl, _, _, rfl, rfl, ?_⟩
        have put : ∀ (H5 : Hp) (c : Bool), c = inRg m k → Same H3 H5 → H5 M = some (.lst (List.replicate ((R0.take i).filter (inRg m)).length (V.int 1))) → (if c = true then ∃ acc, H5 M = some (HO.lst acc) ∧ acc.length < sizeLine ∧ Same H3 (upd H5 M (HO.lst (acc ++ [V.int 1]))) ∧ (upd H5 M (HO.lst (acc ++ [V.int 1]))) M = some (.lst (List.replicate ((R0.take (i + 1)).filter (inRg m)).length (V.int 1))) else Same H3 H5 ∧ H5 M = some (.lst (List.replicate ((R0.take (i + 1)).filter (inRg m)).length (V.int 1)))) := by
          intro H5 c ec s5 h5
          rw [step, ← ec]
          by_cases cc : c = true
          · rw [if_pos cc]
            refine ⟨_, h5, ?_, same_grow nM s5, ?_⟩
            · rw [List.length_replicate]
              have f1 := List.length_filter_le (inRg m) (R0.take i)
              have f2 := List.length_take_le i R0
              have f3 : ((R0.take i).filter (inRg m)).length ≤ 1 := by
                rw [← one]
                exact (List.take_sublist i R0).filter (inRg m) |>.length_le
              exact small (by omega)
            · rw [upd_same, if_pos cc, List.length_append, List.length_singleton, show [V.int 1] = List.replicate 1 (V.int 1) from rfl, List.replicate_append_replicate]
          · rw [if_neg cc]
            refine ⟨s5, ?_⟩
            rw [if_neg cc, List.append_nil]
            exact h5
        by_cases c1 : k.1 ≤ m
        · refine ⟨true, by show V.bl (decide (k.1 ≤ m)) = _; rw [decide_eq_true c1], iteT ⟨_, rfl, _, _, rfl, rfl, _, rfl, ?_⟩⟩
          exact put _ _ (by unfold inRg; rw [decide_eq_true c1]; rfl) sm hM
        · refine ⟨false, by show V.bl (decide (k.1 ≤ m)) = _; rw [decide_eq_false c1], iteF ⟨_, rfl, ?_⟩⟩
          exact put _ false (by unfold inRg; rw [decide_eq_false c1]; rfl) sm hM
      obtain ⟨s4, hM⟩ := p
      rw [lx3, List.take_length, one] at hM
      refine ⟨M, _, rfl, .inl (.of hM), rfl, q _ (Same.but (s1.trans (s2.trans (s3.trans s4)))) (z1.same (s2.trans (s3.trans s4)))⟩
    | some o =>
      refine ⟨_, rfl, rfl, _, rfl, iteN rfl ?_⟩
      obtain ⟨pr, hmf, hmo⟩ := pg_some wb upf hpg
      have hm : pr ∈ psR [] 0 (itR rs) := by rw [← wp]; exact hmf
      obtain ⟨j, hpr⟩ := List.mem_iff_getElem?.mp hm
      obtain ⟨k, r, t, f0, f1, s0, hk, hw, hne, hr2, hkf, cn, cn1⟩ := at_pair hpr
      obtain ⟨mn, mx⟩ := min_max f1 hmo
      have hfl : (flB (blR rs))[j]? = some pr := by rw [wp]; exact hpr
      have g1 := pg_first _ _ wb upf hmf
      have g2 := pg_second _ _ wb upf hmf
      have bin := pair_in pos hm
      have pn : ((pr.2.toNat : Nat) : Int) = pr.2 := by omega
      obtain ⟨fr, gb, gd⟩ := wa_flat (m := pr.2.toNat) pos ok.2.2
      rw [pn, hw] at fr
      rw [pn] at gd
      have stt := at_moment (m := pr.2.toNat) pos_none pos
      rw [pn, show w0R none = [] from rfl, hw] at stt
      have pc0 := pc_at (m := pr.2.toNat) pos (by omega)
      rw [pn, cn] at pc0
      have pc1 := pc_at (m := pr.2.toNat + 1) pos (by omega)
      rw [cn1, show ((pr.2.toNat + 1 : Nat) : Int) = pr.2 + 1 by omega] at pc1
      have po : 0 ≤ o ∧ o < lenR rs ∧ pgR (blR rs) o = some m := by
        rcases hmo with ⟨e1, e2⟩ | ⟨e1, e2⟩
        · rw [← e2, ← e1]
          exact ⟨bin.2.2.1, bin.2.2.2, g2⟩
        · rw [← e2, ← e1]
          exact ⟨bin.1, bin.2.1, g1⟩
      refine ⟨_, rfl, _, rfl, _, _, rfl, _, rfl, _, rfl, _, _, rfl, _, _, rfl, ?_⟩
      rw [mn, mx]
      refine ⟨_, rfl, _, rfl, .ref a, rs, o, rfl, hR1.dress, ok, po.1, po.2.1, fun H2 s2 => ?_⟩
      rw [po.2.2]
      refine ⟨_, rfl, rfl, _, rfl, iteN (by show (!decide (V.int m = V.int m)) = false; rw [decide_eq_true rfl]; rfl) ?_⟩
      have hR2 := hR1.same s2
      refine ⟨_, rfl, _, rfl, .ref a, rs, pr.1, r.1, rfl, hR2.dress, ok, bin.1, bin.2.1, kind_pos pos bin.1 hkf, fun H3 s3 => ?_⟩
      refine ⟨_, rfl, _, rfl, .ref a, rs, pr.2, k, rfl, (hR2.same s3).dress, ok, bin.2.2.1, bin.2.2.2, kind_pos pos bin.2.2.1 hk, fun H4 s4 => ?_⟩
      refine ⟨rfl, _, rfl, iteN (decide_eq_false fun z => hne (V.str.inj z)) ?_⟩
      have hR4 := (hR2.same s3).same s4
      have s14 := s2.trans (s3.trans s4)
      -- the number
      refine ⟨_, rfl, _, rfl, .ref a, rs, .int pr.2, pr.2, rfl, hR4.dress, ok, .inr rfl, bin.2.2.1, Int.le_of_lt bin.2.2.2, fun H5 s5 => ?_⟩
      rw [pc0]
      have hR5 := hR4.same s5
      refine ⟨_, rfl, _, rfl, .ref a, rs, j, pr, rfl, hR5.dress, ok, hfl, fun H6 v6 s6 h6 => ?_⟩
      refine ⟨_, rfl, _, rfl, (by show 2 ≤ sizeLine; decide), fun u nu => ?_⟩
      have su := same_upd (o := .tup [.int pr.1, .int pr.2]) nu
      refine ⟨dPr pr, dPr pr, dp_one (PV.same su h6), dp_one ⟨u, rfl, upd_same⟩, shaped_one _, shaped_one _, _, rfl, ?_⟩
      rw [eqv_one, decide_eq_true rfl]
      refine iteN rfl ?_
      have s57 := s5.trans (s6.trans su)
      have hR7 := hR4.same s57
      refine ⟨_, rfl, _, rfl, _, _, rfl, rfl, .ref a, rs, .int (pr.2 + 1), pr.2 + 1, rfl, hR7.dress, ok, .inr rfl, by omega, by omega, fun H8 s8 => ?_⟩
      rw [pc1]
      refine ⟨_, rfl, _, _, rfl, rfl, rfl, _, rfl, iteN (by show (!decide (V.int ((j + 1 : Nat) : Int) = V.int ((j : Int) + 1))) = false; rw [decide_eq_true (by rw [Int.natCast_add]; rfl)]; rfl) ?_⟩
      have hR8 := hR7.same s8
      -- those who wait
      refine ⟨_, rfl, _, rfl, .ref a, rs, pr.2, rfl, hR8.dress, ok, bin.2.2.1, Int.le_of_lt bin.2.2.2, fun H9 p9 s9 n9 h9 => ?_⟩
      obtain ⟨p0, u0, eR, ep0⟩ := flR_head gd (show flR (waR (cutR 0 pr.2 0 rs) none 0 []) = r.2 :: psW t from fr)
      rw [eR] at h9
      obtain ⟨x9, hx9, hp9⟩ := h9
      cases hp9 with
      | cons hh _ =>
        obtain ⟨t9, rfl, ht9⟩ := hh
        rw [ep0, hr2] at ht9
        refine ⟨p9, _, 0, _, rfl, rfl, .of hx9, atI_nat (j := 0) rfl, t9, _, 0, _, rfl, rfl, .of ht9, at0, _, rfl, rfl, _, rfl, iteN (by show (!decide (V.int pr.1 = V.int pr.1)) = false; rw [decide_eq_true rfl]; rfl) ?_⟩
        have hR9 := hR8.same s9
        -- the state
        refine ⟨_, rfl, _, rfl, .ref a, rs, pr.2, .non, none, rfl, hR9.dress, ok, bin.2.2.1, Int.le_of_lt bin.2.2.2, rfl, so_none, fun H10 v10 s10 h10 => ?_⟩
        rw [stt] at h10
        obtain ⟨t10, rfl, ht10⟩ := h10
        have hR10 := hR9.same s10
        refine ⟨t10, _, 0, _, rfl, rfl, .of ht10, at0, _, rfl, _, rfl, .ref a, rs, pr.1, r.1, rfl, hR10.dress, ok, bin.1, bin.2.1, kind_pos pos bin.1 hkf, fun H11 s11 => ?_⟩
        refine ⟨rfl, _, rfl, iteN (by show (!decide (V.str r.1 = V.str r.1)) = false; rw [decide_eq_true rfl]; rfl) ?_⟩
        have s111 := s14.trans (s57.trans (s8.trans (s9.trans (s10.trans s11))))
        have z11 := z1.same s111
        have hR11 := hR10.same s11
        -- between
        refine ⟨_, rfl, _, rfl, _, rfl, _, rfl, _, _, rfl, rfl, sp, _, rfl, z11, by omega, wide8 (by omega) (by omega), fun H12 d b12 z12 d0 d1 => ⟨_, _, rfl, rfl, ?_⟩⟩
        have d1 : d < pr.2 - pr.1 := d1
        refine ⟨_, rfl, _, rfl, .ref a, rs, pr.1 + d, rfl, (hR11.but z11 b12).dress, ok, by omega, by omega, fun H13 s13 => ?_⟩
        have out := q _ ((Same.but (s1.trans s111)).trans (b12.trans (Same.but s13))) (z12.same s13)
        by_cases dz : d = 0
        · refine ⟨_, rfl, _, rfl, rfl, true, ?_, iteT out⟩
          show V.bl (decide (V.int (pr.1 + d) = V.int pr.1)) = V.bl true
          rw [dz, Int.add_zero, decide_eq_true rfl]
        refine ⟨_, rfl, _, rfl, rfl, false, ?_, iteF ?_⟩
        · show V.bl (decide (V.int (pr.1 + d) = V.int pr.1)) = V.bl false
          rw [decide_eq_false fun z => dz (by have := V.int.inj z; omega)]
        cases hf : pgR (blR rs) (pr.1 + d) with
        | none => exact ⟨_, rfl, rfl, true, rfl, iteT out⟩
        | some y =>
          refine ⟨_, rfl, rfl, false, rfl, iteF ?_⟩
          obtain ⟨pq, hqf, hqo⟩ := pg_some wb upf hf
          have hqm : pq ∈ psR [] 0 (itR rs) := by rw [← wp]; exact hqf
          have lq := (show pq.1 < pq.2 by
            obtain ⟨j2, hj2⟩ := List.mem_iff_getElem?.mp hqm
            obtain ⟨_, _, _, _, f2, _⟩ := at_pair hj2
            exact f2)
          have ni := not_inside (ps_both (itR rs)) hm hqm
          have n1 : pq.1 ≠ pr.2 := up.dis pq hqm pr hm
          have n2 : pr.1 ≠ pq.2 := up.dis pr hm pq hqm
          have n3 : pr.1 = pq.1 → pr = pq := up.fst pr hm pq hqm
          have n4 : pr.2 = pq.2 → pr = pq := up.snd pr hm pq hqm
          by_cases y1 : y < pr.1
          · refine ⟨_, rfl, _, rfl, _, _, rfl, rfl, true, ?_, iteT out⟩
            show V.bl (decide (y < pr.1)) = V.bl true
            rw [decide_eq_true y1]
          refine ⟨_, rfl, _, rfl, _, _, rfl, rfl, false, ?_, iteF ?_⟩
          · show V.bl (decide (y < pr.1)) = V.bl false
            rw [decide_eq_false y1]
          refine ⟨_, rfl, _, rfl, _, _, rfl, rfl, ?_⟩
          have y2 : pr.2 < y := by
            have neq : pr ≠ pq := by
              intro z
              rw [← z] at hqo
              omega
            have n3' : pr.1 ≠ pq.1 := fun z => neq (n3 z)
            have n4' : pr.2 ≠ pq.2 := fun z => neq (n4 z)
            omega
          show Q (V.bl (decide (pr.2 < y))) H13
          rw [decide_eq_true y2]
          exact out
end
end UP

set_option Elab.async false
set_option linter.all false
set_option maxRecDepth 100000
set_option maxHeartbeats 4000000
namespace UP
open PySem PySem.Spec PyProof.Rows L2
theorem seq_gen {s rest : TS} {D : Ends} {σ : L2.St} {H : Hp} (Ok : L2.St → Hp → Prop) (h : ∀ R : L2.St → Hp → Prop, (∀ σ' H', Ok σ' H' → R σ' H') → s { D with nx := R } σ H) (k : ∀ σ' H', Ok σ' H' → rest D σ' H') : tSeq s rest D σ H := h (rest D) k
theorem log_ok {n : Nat} (h : (n : Int) ≤ 100000000000000000000000000000000000) : n.log2 < 200 := by
  by_cases c : n = 0
  · subst c
    decide
  · exact (Nat.log2_lt c).mpr (by omega)
theorem cmul_ok {n : Nat} (h : (n : Int) ≤ 100000000000000000000000000000000000) : CMulW 2 (n : Int) := by
  have := log_ok h
  show (2 : Int).natAbs.log2 + ((n : Int)).natAbs.log2 < 1000000
  rw [Int.natAbs_natCast, show (2 : Int).natAbs.log2 = 1 by decide]
  omega
theorem fl_empty {B : List Blk} (hB : PosB B) (h : flB B = []) : B = [] := by
  cases B with
  | nil => rfl
  | cons x t =>
    exfalso
    have := congrArg List.length h
    have hx := hB x (List.mem_cons_self ..)
    rw [show flB (x :: t) = flX x ++ flB t from rfl, List.length_append, flX_len, List.length_nil] at this
    omega
section
variable {P : Program} {w : World} {K : PySem.W.Frag} {mg : Str → Option Value} {base : Heap}
/-! _law_right: slots 0:spring 1:sequence 2:length 3:blocks 4:number 5:state 6:left 7:longest 8:waits 9:again 10:moment 11:part 12:one 13:two 14:ends 15:first 16:second 17:count 18:kind -/
abbrev s_law_right : Stmt := topS 56
theorem sc_law_right : FnScope ["spring", "sequence", "length", "blocks", "number", "state", "left", "longest", "waits", "again", "moment", "part", "one", "two", "ends", "first", "second", "count", "kind"] ["spring", "sequence"] (defScope s_law_right) := ⟨rfl, rfl, rfl, by decide +kernel, rfl, by decide +kernel, by decide +kernel⟩
def sp_law_right : Sp := fun vs H Q _ => ∃ (sp a : Addr) (rs : List Run), vs = [.ref sp, .ref a] ∧ Spr H sp ∧ Runs H a rs ∧ SeqOk rs ∧ ∀ H', But sp H H' → Spr H' sp → Q (.bl true) H'
theorem ok_law_right (D : Df K mg "_law_right" s_law_right) (T : Tx mg) (G_law_draw : Has P w K mg base 1 "_law_draw" ["spring", "many"] sp_law_draw) (G_pairs_of : Has P w K mg base 6 "pairs_of" ["sequence"] sp_pairs_of)
    (G_state_after : HasD P w K mg base 6 "state_after" ["sequence", "state"] 1 "state" sp_state_after) (G_pair_count : HasD P w K mg base 6 "pair_count" ["sequence", "moment"] 1 "moment" sp_pair_count) (G_longest_wait : Has P w K mg base 6 "longest_wait" ["sequence"] sp_longest_wait)
    (G_law_pair_right : Has P w K mg base 7 "_law_pair_right" ["spring", "sequence", "place"] sp_law_pair_right) (G_law_place : Has P w K mg base 2 "_law_place" ["spring", "sequence", "length"] sp_law_place) (G_part_of : Has P w K mg base 6 "part_of" ["sequence", "start", "length"] sp_part_of) (G_waiting_at : Has P w K mg base 6 "waiting_at" ["sequence", "moment"] sp_waiting_at) :
    Has P w K mg base 8 "_law_right" ["spring", "sequence"] sp_law_right := by
  refine has_of D sc_law_right (fun _ _ _ _ _ _ us hl => match us, hl with | [_, _], _ => rfl) (fun vs H Q E h => ?_) (fun f cdv A outer s₀ H vs Q E hr h => ?_)
  · obtain ⟨_, _, _, rfl, _⟩ := h
    rfl
  · obtain ⟨sp, a, rs, rfl, z0, hR, ok, q⟩ := h
    have pos : ∀ r ∈ rs, 1 ≤ r.2 := fun r hr => (ok.2.1 r hr).2.1
    have lenq := len_it rs pos
    have bd := len_bd ok
    obtain ⟨wp, wb⟩ := whole_pairs pos ok.2.2
    have cf := cnt_fl _ wb
    rw [wp] at cf
    have cnt := ps_count (itR rs)
    have pcv := pc_at (m := (itR rs).length) pos (Nat.le_refl _)
    rw [lenq, List.take_length] at pcv
    have lef := pc_left pos
    rw [pcv] at lef
    have l4 := ok.1
    have nj := noj_bl pos ok.2.2
    obtain ⟨xs, hx, hp⟩ := id hR
    have lx : xs.length = rs.length := Paired.len hp
    refine ⟨_, (pss_cons (ps_set (i := 2) sc_law_right.nd rfl (by first | exact Or.inl rfl | exact Or.inr rfl) (pe_callB (cr_sum rfl) (by rfl) T.n_sum (by decide +kernel) (pa_cons (pe_lc (own := [("kind", 18), ("count", 17)]) rfl sc_law_right.nd (pi_list (pv 1)) (blkOk_by (N := ["spring", "sequence", "length", "blocks", "number", "state", "left", "longest", "waits", "again", "moment", "part", "one", "two", "ends", "first", "second", "count", "kind"]) (sc := defScope s_law_right) (by decide +kernel)) (fun _ _ _ _ _ => (pg_tupK (K := K) (n := 2) rfl rfl (pgs_cons (pg_name (i := 18) sc_law_right.nd rfl (by first | exact Or.inl rfl | exact Or.inr rfl)) (pgs_cons (pg_name (i := 17) sc_law_right.nd rfl (by first | exact Or.inl rfl | exact Or.inr rfl)) pgs_nil)))) (fun _ _ _ _ _ => pts_nil) (fun _ _ _ _ _ => (pv 17))) pa_nil)))
    (pss_cons (ps_set (i := 3) sc_law_right.nd rfl (by first | exact Or.inl rfl | exact Or.inr rfl) (pe_callH G_pairs_of (hr.mono (by omega)) (by rfl) (pa_cons (pv 1) pa_nil)))
    (pss_cons (ps_set (i := 4) sc_law_right.nd rfl (by first | exact Or.inl rfl | exact Or.inr rfl) (pe_callB (cr_sum rfl) (by rfl) T.n_sum (by decide +kernel) (pa_cons (pe_lc (own := [("first", 15), ("second", 16), ("count", 17)]) rfl sc_law_right.nd (pi_list (pv 3)) (blkOk_by (N := ["spring", "sequence", "length", "blocks", "number", "state", "left", "longest", "waits", "again", "moment", "part", "one", "two", "ends", "first", "second", "count", "kind"]) (sc := defScope s_law_right) (by decide +kernel)) (fun _ _ _ _ _ => (pg_tupK (K := K) (n := 3) rfl rfl (pgs_cons (pg_name (i := 15) sc_law_right.nd rfl (by first | exact Or.inl rfl | exact Or.inr rfl)) (pgs_cons (pg_name (i := 16) sc_law_right.nd rfl (by first | exact Or.inl rfl | exact Or.inr rfl)) (pgs_cons (pg_name (i := 17) sc_law_right.nd rfl (by first | exact Or.inl rfl | exact Or.inr rfl)) pgs_nil))))) (fun _ _ _ _ _ => pts_nil) (fun _ _ _ _ _ => (pv 17))) pa_nil)))
    (pss_cons (ps_set (i := 5) sc_law_right.nd rfl (by first | exact Or.inl rfl | exact Or.inr rfl) (pe_callDH G_state_after (hr.mono (by omega)) (by rfl) (pa_cons (pv 1) pa_nil)))
    (pss_cons (ps_set (i := 6) sc_law_right.nd rfl (by first | exact Or.inl rfl | exact Or.inr rfl) (pe_ifExp (pt_cmpR op_isN (pv 5) pe_non (nomark _)) pe_int (pe_ix ix_tup (pv 5) pe_int (fun _ _ => rfl))))
    (pss_cons (ps_if (PW.pt (pw_or (pt_cmpR op_ne (pe_callDH G_pair_count (hr.mono (by omega)) (by rfl) (pa_cons (pv 1) pa_nil)) (pv 4) (nomark _)) (pw_or1 (pt_cmpR op_ne (pe_op op_add (pe_op op_mulW pe_int (pv 4)) (pv 6)) (pv 2) (nomark _))))) (pss_one (ps_ret pe_bl)) pss_nil)
    (pss_cons (ps_for PassesOwn.never rfl (pi_zip1 (i := 3) (RZ.pi_zipA (by rfl) T.n_zip (pa_cons (pv 3) (pa_cons (pe_slice (SlR.or sl_list sl_tupA) (pv 3) (po_some pe_int) po_none) pa_nil))) (fun _ _ _ q => ⟨1, rfl, q⟩) (fun _ _ _ q => q)) (pg_tup rfl (pgs_cons (pg_name (i := 12) sc_law_right.nd rfl (by first | exact Or.inl rfl | exact Or.inr rfl)) (pgs_cons (pg_name (i := 13) sc_law_right.nd rfl (by first | exact Or.inl rfl | exact Or.inr rfl)) pgs_nil)))
      (pss_cons (ps_set (i := 14) sc_law_right.nd rfl (by first | exact Or.inl rfl | exact Or.inr rfl) (pe_tup (pa_cons (pe_op op_add (pe_ix ix_tup (pv 12) pe_int (fun _ _ => rfl)) (pe_ix ix_tup (pv 12) pe_int (fun _ _ => rfl))) (pa_cons (pe_op op_add (pe_ix ix_tup (pv 12) pe_int (fun _ _ => rfl)) (pe_ix ix_tup (pv 12) pe_int (fun _ _ => rfl))) pa_nil))))
    (pss_one (ps_if (PW.pt (pw_or (pt_cmpR op_gt (pe_ix ix_tup (pv 14) pe_int (fun _ _ => rfl)) (pe_ix ix_tup (pv 13) pe_int (fun _ _ => rfl)) (nomark _)) (pw_or (pt_cmpR op_gt (pe_ix ix_tup (pv 14) pe_int (fun _ _ => rfl)) (pe_ix ix_tup (pv 13) pe_int (fun _ _ => rfl)) (nomark _)) (pw_or1 (pt_cmpR (op_eqD hr.units) (pv 14) (pe_slice sl_tup (pv 13) po_none (po_some pe_int)) (nomark _)))))) (pss_one (ps_ret pe_bl)) pss_nil))))
    (pss_cons (ps_set (i := 7) sc_law_right.nd rfl (by first | exact Or.inl rfl | exact Or.inr rfl) (pe_callH G_longest_wait (hr.mono (by omega)) (by rfl) (pa_cons (pv 1) pa_nil)))
    (pss_cons (ps_if (pt_cmpR op_ne (pe_cmpR op_isN (pv 7) pe_non (nomark _)) (pe_cmpR op_eq (pv 4) pe_int (nomark _)) (nomark _)) (pss_one (ps_ret pe_bl)) pss_nil)
    (pss_cons (ps_setLc (i := 8) (own := [("first", 15), ("second", 16), ("count", 17)]) rfl sc_law_right.nd rfl rfl (sw_true rfl rfl rfl (by decide +kernel)) (pi_list (pv 3)) (blkOk_by (N := ["spring", "sequence", "length", "blocks", "number", "state", "left", "longest", "waits", "again", "moment", "part", "one", "two", "ends", "first", "second", "count", "kind"]) (sc := defScope s_law_right) (by decide +kernel)) (fun _ _ _ _ _ => (pg_tupK (K := K) (n := 3) rfl rfl (pgs_cons (pg_name (i := 15) sc_law_right.nd rfl (by first | exact Or.inl rfl | exact Or.inr rfl)) (pgs_cons (pg_name (i := 16) sc_law_right.nd rfl (by first | exact Or.inl rfl | exact Or.inr rfl)) (pgs_cons (pg_name (i := 17) sc_law_right.nd rfl (by first | exact Or.inl rfl | exact Or.inr rfl)) pgs_nil))))) (fun _ _ _ _ _ => pts_nil) (fun _ _ _ _ _ => (pe_op op_sub (pv 16) (pv 15))))
    (pss_cons (ps_if (PW.pt (pw_and (pt_cmpR op_gt (pv 4) pe_int (nomark _)) (pw_and1 (pt_cmpR (op_neD hr.units) (pv 7) (pe_slice sl_tup (pe_ix ix_list (pv 3) (pe_bm PySem.F.plainAttrs_list PySem.F.slot_list_index PySem.F.type_list_index mt_index (pv 8) (pa_cons (pe_callB (cr_max rfl) (by rfl) T.n_max (by decide +kernel) (pa_cons (pv 8) pa_nil)) pa_nil)) (fun _ _ => rfl)) po_none (po_some pe_int)) (nomark _))))) (pss_one (ps_ret pe_bl)) pss_nil)
    (pss_cons (ps_for PassesOwn.never rfl (pi_range1 (by rfl) T.n_range (pa_cons (pe_op op_mulW pe_int (pe_callTy call_int1 (by rfl) T.n_int (by decide +kernel) (pa_cons (pe_cmpR op_gt (pv 2) pe_int (nomark _)) pa_nil))) pa_nil)) (pg_name (i := 9) sc_law_right.nd rfl (by first | exact Or.inl rfl | exact Or.inr rfl))
      (pss_one (ps_if (pt_not (pt_val (pe_callH G_law_pair_right (hr.mono (by omega)) (by rfl) (pa_cons (pv 0) (pa_cons (pv 1) (pa_cons (pe_callH G_law_place (hr.mono (by omega)) (by rfl) (pa_cons (pv 0) (pa_cons (pv 1) (pa_cons (pv 2) pa_nil)))) pa_nil)))))) (pss_one (ps_ret pe_bl)) pss_nil)))
    (pss_cons (ps_set (i := 10) sc_law_right.nd rfl (by first | exact Or.inl rfl | exact Or.inr rfl) (pe_callH G_law_draw (hr.mono (by omega)) (by rfl) (pa_cons (pv 0) (pa_cons (pe_op op_add (pv 2) pe_int) pa_nil))))
    (pss_cons (ps_set (i := 11) sc_law_right.nd rfl (by first | exact Or.inl rfl | exact Or.inr rfl) (pe_callH G_part_of (hr.mono (by omega)) (by rfl) (pa_cons (pv 1) (pa_cons pe_int (pa_cons (pv 10) pa_nil)))))
    (pss_cons (ps_if (pt_cmpR op_ne (pe_callH G_pair_count.has (hr.mono (by omega)) (by rfl) (pa_cons (pv 1) (pa_cons (pv 10) pa_nil))) (pe_callDH G_pair_count (hr.mono (by omega)) (by rfl) (pa_cons (pv 11) pa_nil)) (nomark _)) (pss_one (ps_ret pe_bl)) pss_nil)
    (pss_one (ps_ret (pe_cmpR (op_eqD hr.units) (pe_callH G_waiting_at (hr.mono (by omega)) (by rfl) (pa_cons (pv 1) (pa_cons (pv 10) pa_nil))) (pe_callH G_waiting_at (hr.mono (by omega)) (by rfl) (pa_cons (pv 11) (pa_cons (pv 10) pa_nil))) (nomark _))))))))))))))))))), ?_⟩
    refine ⟨_, rfl, a, rfl, ⟨xs, .of hx⟩, fun L nL => lc_list (K := K) (a := a) (xs := xs) (fun i H' => Same H H' ∧ H' L = some (.lst (((rs.map (·.2)).take i).map V.int))) ⟨same_upd nL, upd_same⟩ (fun i H' _ p => .of (p.1 _ _ hx)) (fun i x H2 ex p => ?_) (fun H2 p => ?_)⟩
    · obtain ⟨sm, hL⟩ := p
      obtain ⟨r, er, hr1⟩ := Paired.at hp ex
      have hi : i < xs.length := (List.getElem?_eq_some_iff.mp ex).1
      obtain ⟨t, rfl, ht⟩ := RunV.same sm hr1
      refine ⟨t, _, rfl, .of ht, rfl, _, _, rfl, _, _, rfl, rfl, rfl, yesT ⟨_, rfl, _, hL, ?_, same_grow nL sm, ?_⟩⟩
      · simp only [List.length_map, List.length_take]
        exact small (by omega)
      · rw [upd_same, take_snoc (x := r.2) (by rw [List.getElem?_map, er]; rfl), List.map_append]
        rfl
    obtain ⟨s2, hL⟩ := p
    rw [List.take_of_length_le (by rw [List.length_map]; omega)] at hL
    have eL : (rs.map (fun r : Run => r.2)).sum = lenR rs := rfl
    refine ⟨L, (rs.map (fun r : Run => r.2)), rfl, .of hL, ?_⟩
    rw [eL]
    -- blocks
    refine ⟨_, rfl, .ref a, rs, rfl, (hR.same s2).dress, ok, fun H3 p3 s3 n3 h3 => ?_⟩
    obtain ⟨bs, hb, hbp⟩ := id h3
    have lb : bs.length = (blR rs).length := Paired.len hbp
    have lB : (blR rs).length ≤ 160000 := by
      refine Nat.le_trans (boR_len rs none 0 [] []) ?_
      have h1 := ok.1
      have h2 := Nat.mul_le_mul h1 h1
      show ([] : List Blk).length + rs.length * (0 + rs.length) ≤ _
      rw [List.length_nil, Nat.zero_add, Nat.zero_add]
      omega
    -- their number
    refine ⟨_, rfl, p3, rfl, ⟨bs, .of hb⟩, fun M nM => lc_list (K := K) (a := p3) (xs := bs) (fun i H' => Same H3 H' ∧ H' M = some (.lst ((((blR rs).map (·.2.2)).take i).map V.int))) ⟨same_upd nM, upd_same⟩ (fun i H' _ p => .of (p.1 _ _ hb)) (fun i x H4 ex p => ?_) (fun H4 p => ?_)⟩
    · obtain ⟨sm, hM⟩ := p
      obtain ⟨r, er, hr1⟩ := Paired.at hbp ex
      have hi : i < bs.length := (List.getElem?_eq_some_iff.mp ex).1
      obtain ⟨t, rfl, ht⟩ := BV.same sm hr1
      refine ⟨t, _, rfl, .of ht, rfl, _, _, rfl, _, _, rfl, _, _, rfl, rfl, rfl, yesT ⟨_, rfl, _, hM, ?_, same_grow nM sm, ?_⟩⟩
      · simp only [List.length_map, List.length_take]
        exact small (by omega)
      · rw [upd_same, take_snoc (x := r.2.2) (by rw [List.getElem?_map, er]; rfl), List.map_append]
        rfl
    obtain ⟨s4, hM⟩ := p
    rw [List.take_of_length_le (by rw [List.length_map]; omega)] at hM
    refine ⟨M, ((blR rs).map (fun r : Blk => r.2.2)), rfl, .of hM, ?_⟩
    rw [show ((blR rs).map (fun r : Blk => r.2.2)).sum = ((psR [] 0 (itR rs)).length : Int) from cf]
    have hR4 := ((hR.same s2).same s3).same s4
    have s34 := s2.trans (s3.trans s4)
    -- the state
    refine ⟨_, rfl, .ref a, rs, .non, none, rfl, hR4.dress, ok, rfl, so_none, fun H5 v5 s5 h5 => ?_⟩
    have hR5 := hR4.same s5
    have hb5 := s5 _ _ (s4 _ _ hb)
    have hbp5 : Paired (BV H5) bs (blR rs) := Paired.imp (fun _ _ z => BV.same (s4.trans s5) z) hbp
    have z5 := z0.same (s34.trans s5)
    have b5 : But sp H H5 := Same.but (s34.trans s5)
    clear hb hbp h3 hL hM nL nM hx hp s4 s3
    refine seq_gen (fun σ' H' => σ' = [some (.ref sp), some (.ref a), some (.int (lenR rs)), some (.ref p3), some (.int ((psR [] 0 (itR rs)).length : Int)), some v5, none, none, none, none, none, none, none, none, none, none, none, none, none] ∧ H5 = H') (fun R hRr => ?_) (fun σ' H' hO => ?_)
    · exact hRr _ _ ⟨rfl, rfl⟩
    obtain ⟨rfl, rfl⟩ := hO
    refine seq_gen (fun σ' H' => σ' = [some (.ref sp), some (.ref a), some (.int (lenR rs)), some (.ref p3), some (.int ((psR [] 0 (itR rs)).length : Int)), some v5, some (.int (numR (stR rs none))), none, none, none, none, none, none, none, none, none, none, none, none] ∧ H5 = H') (fun R hRr => ?_) (fun σ' H' hO => ?_)
    · cases hst : stR rs none with
      | none =>
        rw [hst] at h5
        have h5 : v5 = .non := h5
        subst h5
        exact ⟨_, rfl, rfl, _, rfl, iteP rfl (hRr _ _ ⟨by rw [hst]; rfl, rfl⟩)⟩
      | some r =>
        rw [hst] at h5
        obtain ⟨t5, rfl, ht5⟩ := h5
        exact ⟨_, rfl, rfl, _, rfl, iteN rfl ⟨_, rfl, t5, _, 1, _, rfl, rfl, .of ht5, at1, hRr _ _ ⟨by rw [hst]; rfl, rfl⟩⟩⟩
    obtain ⟨rfl, rfl⟩ := hO
    generalize numR (stR rs none) = lft at *
    have lefE : 2 * ((psR [] 0 (itR rs)).length : Int) + lft = lenR rs := by omega
    clear h5
    refine ⟨_, rfl, .ref a, rs, .non, lenR rs, rfl, hR5.dress, ok, .inl ⟨rfl, rfl⟩, by omega, Int.le_refl _, fun H6 s6 => ?_⟩
    rw [pcv]
    refine ⟨_, rfl, rfl, _, rfl, iteN (by rw [decide_eq_true rfl]; rfl) ?_⟩
    refine ⟨_, rfl, _, _, rfl, rfl, (cmul_ok (by omega)), _, rfl, _, _, rfl, rfl, _, rfl, rfl, _, rfl, iteN (by show (!decide (V.int (2 * ((psR [] 0 (itR rs)).length : Int) + lft) = V.int (lenR rs))) = false; rw [lefE, decide_eq_true rfl]; rfl) ?_⟩
    -- block behind block
    have hb6 := s6 _ _ hb5
    refine ⟨p3, bs, rfl, .inl hb6, fun J Hc sc wk => for_gen (n := bs.length - 1) (fun i σ H' => ∃ y12 y13 y14, σ = [some (.ref sp), some (.ref a), some (.int (lenR rs)), some (.ref p3), some (.int ((psR [] 0 (itR rs)).length : Int)), some v5, some (.int lft), none, none, none, none, none, y12, y13, y14, none, none, none, none] ∧ Same Hc H') ⟨none, none, none, rfl, Same.refl _⟩ (fun i σ H' hi hP => ?_) (fun σ H' hP => ?_) (fun i x σ H7 H8 hi hP hy => ?_) (fun σ H7 hP => ?_)⟩
    · obtain ⟨_, _, _, _, sm⟩ := hP
      exact wk.go i H' sm (by omega)
    · obtain ⟨_, _, _, _, sm⟩ := hP
      exact wk.stop H' sm
    · obtain ⟨y12, y13, y14, rfl, sm⟩ := hP
      obtain ⟨T', x1, x2, rfl, nT, rfl, g1, g2⟩ := wk.yld i x H7 H8 sm hy
      have g2 := g2 (by omega)
      obtain ⟨r1, e1, v1⟩ := Paired.at hbp5 g1
      obtain ⟨r2, e2, v2⟩ := Paired.at hbp5 g2
      have sT := same_upd (o := .tup [x1, x2]) nT
      have s67 := s6.trans (sc.trans (sm.trans sT))
      obtain ⟨t1, rfl, w1⟩ := BV.same s67 v1
      obtain ⟨t2, rfl, w2⟩ := BV.same s67 v2
      obtain ⟨o1, o2⟩ := blk_next wb wp e1 e2
      have o3 := nj i r1 r2 e1 e2
      refine ⟨T', _, rfl, .of upd_same, rfl, _, _, rfl, _, _, rfl, rfl, ?_⟩
      refine ⟨_, rfl, t1, _, 0, _, rfl, rfl, .of w1, at3a, _, rfl, t1, _, 2, _, rfl, rfl, .of w1, at3c, _, _, rfl, rfl, ?_⟩
      refine ⟨_, rfl, t1, _, 1, _, rfl, rfl, .of w1, at3b, _, rfl, t1, _, 2, _, rfl, rfl, .of w1, at3c, _, _, rfl, rfl, (by show 2 ≤ sizeLine; decide), fun e ne => ?_⟩
      have se := same_upd (o := .tup [.int (r1.1 + r1.2.2), .int (r1.2.1 + r1.2.2)]) ne
      have w2e := se _ _ w2
      refine ⟨_, rfl, e, _, 0, _, rfl, rfl, .of upd_same, rfl, _, rfl, t2, _, 0, _, rfl, rfl, .of w2e, at3a, _, _, rfl, rfl, _, rfl, iteN (decide_eq_false (by omega)) ?_⟩
      refine ⟨_, rfl, e, _, 1, _, rfl, rfl, .of upd_same, rfl, _, rfl, t2, _, 1, _, rfl, rfl, .of w2e, at3b, _, _, rfl, rfl, _, rfl, iteN (decide_eq_false (by omega)) ?_⟩
      refine ⟨_, rfl, _, rfl, 2, rfl, t2, _, rfl, .of w2e, (fun z => absurd z.2 (show ¬ (2 : Nat) = 3 by decide)), fun c nc => ?_⟩
      have sc2 := same_upd (o := .tup [.int r2.1, .int r2.2.1]) nc
      refine ⟨dPr (r1.1 + r1.2.2, r1.2.1 + r1.2.2), dPr (r2.1, r2.2.1), dp_one ⟨e, rfl, sc2 _ _ upd_same⟩, dp_one ⟨c, rfl, upd_same⟩, shaped_one _, shaped_one _, ?_⟩
      rw [eqv_one, decide_eq_false (fun z => o3 ⟨congrArg Prod.fst z, congrArg Prod.snd z⟩)]
      exact ⟨_, rfl, iteF ⟨_, _, _, rfl, sm.trans (sT.trans (se.trans sc2))⟩⟩
    obtain ⟨y12, y13, y14, rfl, s7⟩ := hP
    have s57 := s6.trans (sc.trans s7)
    have hR7 := hR5.same s57
    -- the longest wait
    refine ⟨_, rfl, .ref a, rs, rfl, hR7.dress, ok, fun H8 v8 s8 h8 => ?_⟩
    have hb8 := s8 _ _ (s57 _ _ hb5)
    have hbp8 : Paired (BV H8) bs (blR rs) := Paired.imp (fun _ _ z => BV.same (s57.trans s8) z) hbp5
    have hR8 := hR7.same s8
    have z8 := z5.same (s57.trans s8)
    have b8 := b5.trans (Same.but (s57.trans s8))
    clear hb5 hbp5 hR5 hR7 z5 b5 s57 s7 hb6 s6 sc wk s5 s34
    have nonE : decide (v8 = V.non) = decide (V.int ((psR [] 0 (itR rs)).length : Int) = V.int 0) := by
      by_cases n0 : (psR [] 0 (itR rs)).length = 0
      · have be : blR rs = [] := fl_empty wb (by rw [wp, List.eq_nil_of_length_eq_zero n0])
        rw [be] at h8
        have h8 : v8 = .non := h8
        rw [h8, n0]
        rfl
      · have be : blR rs ≠ [] := by
          intro z
          rw [z] at wp
          exact n0 (by rw [← wp]; rfl)
        obtain ⟨_, x, _, lw, _⟩ := lw_first _ be
        rw [lw] at h8
        obtain ⟨t, rfl, _⟩ := h8
        rw [decide_eq_false (show ¬ (V.int ((psR [] 0 (itR rs)).length : Int) = V.int 0) from fun z => n0 (by have := V.int.inj z; omega))]
        rfl
    refine ⟨_, rfl, rfl, _, rfl, rfl, rfl, _, rfl, iteN (by show (!decide (V.bl (decide (v8 = V.non)) = V.bl (decide (V.int ((psR [] 0 (itR rs)).length : Int) = V.int 0)))) = false; rw [nonE, decide_eq_true rfl]; rfl) ?_⟩
    -- the waits
    refine ⟨_, rfl, p3, rfl, ⟨bs, .of hb8⟩, fun W nW => lc_list (K := K) (a := p3) (xs := bs) (fun i H' => Same H8 H' ∧ H' W = some (.lst ((((blR rs).map (fun x : Blk => x.2.1 - x.1)).take i).map V.int))) ⟨same_upd nW, upd_same⟩ (fun i H' _ p => .of (p.1 _ _ hb8)) (fun i x H9 ex p => ?_) (fun H9 p => ?_)⟩
    · obtain ⟨sm, hW⟩ := p
      obtain ⟨r, er, hr1⟩ := Paired.at hbp8 ex
      have hi : i < bs.length := (List.getElem?_eq_some_iff.mp ex).1
      obtain ⟨t, rfl, ht⟩ := BV.same sm hr1
      refine ⟨t, _, rfl, .of ht, rfl, _, _, rfl, _, _, rfl, _, _, rfl, rfl, rfl, yesT ⟨_, rfl, _, rfl, _, _, rfl, rfl, _, hW, ?_, same_grow nW sm, ?_⟩⟩
      · simp only [List.length_map, List.length_take]
        exact small (by omega)
      · rw [upd_same, take_snoc (x := r.2.1 - r.1) (by rw [List.getElem?_map, er]; rfl), List.map_append]
        rfl
    obtain ⟨s9, hW⟩ := p
    rw [List.take_of_length_le (by rw [List.length_map]; omega)] at hW
    have z9 := z8.same s9
    have b9 := b8.trans (Same.but s9)
    have hR9 := hR8.same s9
    have hb9 := s9 _ _ hb8
    have hbp9 : Paired (BV H9) bs (blR rs) := Paired.imp (fun _ _ z => BV.same s9 z) hbp8
    have h9 := OPV.same s9 h8
    clear hb8 hbp8 hR8 z8 b8 s9 h8 nW s8
    refine seq_gen (fun σ' H' => σ' = [some (.ref sp), some (.ref a), some (.int (lenR rs)), some (.ref p3), some (.int ((psR [] 0 (itR rs)).length : Int)), some v5, some (.int lft), some v8, some (.ref W), none, none, none, y12, y13, y14, none, none, none, none] ∧ H9 = H') (fun R hRr => hRr _ _ ⟨rfl, rfl⟩) (fun σ' H' hO => ?_)
    obtain ⟨rfl, rfl⟩ := hO
    refine seq_gen (fun σ' H' => σ' = [some (.ref sp), some (.ref a), some (.int (lenR rs)), some (.ref p3), some (.int ((psR [] 0 (itR rs)).length : Int)), some v5, some (.int lft), some v8, some (.ref W), none, none, none, y12, y13, y14, none, none, none, none] ∧ Same H9 H') (fun R hRr => ?_) (fun σ' H' hO => ?_)
    · by_cases n0 : (psR [] 0 (itR rs)).length = 0
      · exact ⟨_, rfl, _, _, rfl, rfl, _, rfl, iteN (decide_eq_false (by omega)) (iteF (hRr _ _ ⟨rfl, Same.refl _⟩))⟩
      refine ⟨_, rfl, _, _, rfl, rfl, _, rfl, iteP (decide_eq_true (by omega)) ?_⟩
      have be : blR rs ≠ [] := by
        intro z
        rw [z] at wp
        exact n0 (by rw [← wp]; rfl)
      obtain ⟨j, x, hj, lw, mx, fs⟩ := lw_first _ be
      rw [lw] at h9
      obtain ⟨tx, ex, hbx⟩ : ∃ tx, bs[j]? = some (.ref tx) ∧ H9 tx = some (.tup [.int x.1, .int x.2.1, .int x.2.2]) := by
        have jl := (List.getElem?_eq_some_iff.mp hj).1
        obtain ⟨y, ey, ⟨t, e, hy⟩⟩ := Paired.at' hbp9 hj
        rw [e] at ey
        exact ⟨t, ey, hy⟩
      refine ⟨_, rfl, _, rfl, _, rfl, .inl ⟨rfl, _, .of hW⟩, _, rfl, W, _, rfl, .of hW, ?_, fun m mm ml => ?_⟩
      · rw [List.length_map]
        exact Nat.pos_of_ne_zero fun z => be (List.eq_nil_of_length_eq_zero z)
      have em : m = x.2.1 - x.1 := by
        obtain ⟨y, hy, e⟩ := List.mem_map.mp mm
        have h1 := mx y hy
        have h2 := ml (x.2.1 - x.1) (List.mem_map.mpr ⟨x, List.mem_of_getElem? hj, rfl⟩)
        have e : y.2.1 - y.1 = m := e
        omega
      refine ⟨W, _, .int m, j, .int m, rfl, rfl, .of hW, rfl, ?_, ?_, ?_, fun i z' hi hz => ?_, ?_⟩
      · rw [List.all_map]
        exact List.all_eq_true.mpr fun _ _ => rfl
      · rw [List.getElem?_map, List.getElem?_map, hj, em]
        rfl
      · exact decide_eq_true rfl
      · rw [List.getElem?_map, List.getElem?_map] at hz
        cases ey : (blR rs)[i]? with
        | none =>
          rw [ey] at hz
          cases hz
        | some y =>
          rw [ey] at hz
          have hz : V.int (y.2.1 - y.1) = z' := Option.some.inj hz
          have := fs i y hi ey
          rw [← hz]
          exact decide_eq_false (by omega)
      have h9 : PV H9 v8 (x.1, x.2.1) := h9
      refine ⟨p3, bs, j, _, rfl, rfl, .of hb9, atI_nat ex, 2, rfl, tx, _, rfl, .of hbx, (fun z => absurd z.2 (show ¬ (2 : Nat) = 3 by decide)), fun c nc => ?_⟩
      have sc3 := same_upd (o := .tup [.int x.1, .int x.2.1]) nc
      refine ⟨dPr (x.1, x.2.1), dPr (x.1, x.2.1), dp_one (PV.same sc3 h9), dp_one ⟨c, rfl, upd_same⟩, shaped_one _, shaped_one _, _, rfl, ?_⟩
      rw [eqv_one, decide_eq_true rfl]
      exact iteF (hRr _ _ ⟨rfl, sc3⟩)
    obtain ⟨rfl, s10⟩ := hO
    have hR10 := hR9.same s10
    have z10 := z9.same s10
    have b10 := b9.trans (Same.but s10)
    clear hW h9 hb9 hbp9 hR9 z9 b9 s10
    refine ⟨_, rfl, _, _, rfl, rfl, .inr ⟨_, rfl, _, _, rfl, rfl, ?_⟩⟩
    obtain ⟨c, ec, hc⟩ : ∃ c : Int, (if decide (0 < lenR rs) = true then (1 : Int) else 0) = c ∧ (c = 0 ∨ (c = 1 ∧ 1 ≤ lenR rs)) := by
      by_cases l0 : 0 < lenR rs
      · exact ⟨1, if_pos (decide_eq_true l0), .inr ⟨rfl, by omega⟩⟩
      · exact ⟨0, if_neg (by rw [decide_eq_false l0]; decide), .inl rfl⟩
    rw [ec]
    have cm : CMulW 4 c := by
      rcases hc with e | ⟨e, _⟩
      · rw [e]
        show (4 : Int).natAbs.log2 + (0 : Int).natAbs.log2 < 1000000
        decide
      · rw [e]
        show (4 : Int).natAbs.log2 + (1 : Int).natAbs.log2 < 1000000
        decide
    refine ⟨cm, _, rfl, by omega, by omega, for_range (lo := 0) (n := _) (fun i σ H' => ∃ y9, σ = [some (.ref sp), some (.ref a), some (.int (lenR rs)), some (.ref p3), some (.int ((psR [] 0 (itR rs)).length : Int)), some v5, some (.int lft), some v8, some (.ref W), y9, none, none, y12, y13, y14, none, none, none, none] ∧ But sp H H' ∧ Spr H' sp ∧ Runs H' a rs) ⟨none, rfl, b10, z10, hR10⟩ (fun i σ H' hi hP => ?_) (fun σ H' hP => ?_)⟩
    · obtain ⟨y9, rfl, b11, z11, hR11⟩ := hP
      have l1 : 1 ≤ lenR rs := by omega
      refine ⟨_, rfl, _, rfl, _, rfl, _, rfl, _, rfl, sp, a, rs, rfl, z11, hR11, ok, l1, fun H12 m b12 z12 m0 m1 => ?_⟩
      exact ⟨sp, a, rs, m, rfl, z12, hR11.but z11 b12, ok, m0, m1, fun H13 b13 z13 => ⟨true, rfl, iteF ⟨_, rfl, b11.trans (b12.trans b13), z13, (hR11.but z11 b12).but z12 b13⟩⟩⟩
    obtain ⟨y9, rfl, b11, z11, hR11⟩ := hP
    have l0 : 0 ≤ lenR rs := by omega
    refine ⟨_, rfl, _, rfl, _, _, rfl, rfl, sp, _, rfl, z11, (by show 1 ≤ lenR rs + 1; omega), wide8 (by show 0 ≤ lenR rs + 1; omega) (by show lenR rs + 1 ≤ _; omega), fun H12 m b12 z12 m0 m1 => ?_⟩
    have m1 : m < lenR rs + 1 := m1
    have hR12 := hR11.but z11 b12
    obtain ⟨e1, e2, e3⟩ := part_len pos m0 (show m ≤ lenR rs by omega)
    have mn : ((m.toNat : Nat) : Int) = m := by omega
    obtain ⟨d1, d2⟩ := pc_div (A := cutR 0 m 0 rs) (n := m.toNat) pos cutR_pos e1 (by omega)
    rw [mn] at d1
    refine ⟨_, rfl, _, rfl, .ref a, rs, 0, m, rfl, hR12.dress, ok, Int.le_refl _, m0, by omega, fun H13 p13 s13 n13 h13 => ?_⟩
    rw [Int.zero_add] at h13
    have hR13 := hR12.same s13
    have okc : SeqOk (cutR 0 m 0 rs) := seq_cut ok
    refine ⟨_, rfl, _, rfl, .ref a, rs, .int m, m, rfl, hR13.dress, ok, .inr rfl, m0, by omega, fun H14 s14 => ?_⟩
    refine ⟨_, rfl, .ref p13, cutR 0 m 0 rs, .non, lenR (cutR 0 m 0 rs), rfl, (h13.same s14).dress, okc, .inl ⟨rfl, rfl⟩, by omega, Int.le_refl _, fun H15 s15 => ?_⟩
    rw [d1, d2]
    refine ⟨rfl, _, rfl, iteN (by rw [decide_eq_true rfl]; rfl) ?_⟩
    have s15' := s14.trans s15
    refine ⟨_, rfl, _, rfl, .ref a, rs, m, rfl, (hR13.same s15').dress, ok, m0, by omega, fun H16 p16 s16 n16 h16 => ?_⟩
    refine ⟨_, rfl, _, rfl, .ref p13, cutR 0 m 0 rs, m, rfl, ((h13.same s15').same s16).dress, okc, m0, by omega, fun H17 p17 s17 n17 h17 => ?_⟩
    rw [e3] at h17
    generalize waR (cutR 0 m 0 rs) none 0 [] = R0 at *
    obtain ⟨x6, hx6, hp6⟩ := h16.same s17
    obtain ⟨x7, hx7, hp7⟩ := h17
    refine ⟨.list (R0.map dPr), .list (R0.map dPr), .lst (.of hx6) (dp_pr hp6), .lst (.of hx7) (dp_pr hp7), shaped_pr _, shaped_pr _, ?_⟩
    rw [eqv_pr, decide_eq_true rfl]
    exact q _ (b11.trans (b12.trans (Same.but (s13.trans (s15'.trans (s16.trans s17)))))) (z12.same (s13.trans (s15'.trans (s16.trans s17))))
end
end UP

set_option Elab.async false
set_option linter.all false
set_option maxRecDepth 100000
set_option maxHeartbeats 4000000
namespace UP
open PySem PySem.Spec PyProof.Rows L2
theorem pick2 {x y r : Int} (h0 : 0 ≤ r) (h1 : r < 2) : ∃ g, atI [V.int x, V.int y] r = some (.int g) ∧ (g = x ∨ g = y) := by
  have : r = 0 ∨ r = 1 := by omega
  rcases this with e | e
  · rw [e]
    exact ⟨x, rfl, .inl rfl⟩
  · rw [e]
    exact ⟨y, rfl, .inr rfl⟩
theorem p30 : (10 : Int) ^ ((30 : Int).toNat) = 1000000000000000000000000000000 := by decide +kernel
section
variable {P : Program} {w : World} {K : PySem.W.Frag} {mg : Str → Option Value} {base : Heap}
/-! law: slots 0:script 1:spring 2:turn 3:most 4:longest -/
abbrev s_law : Stmt := topS 57
theorem sc_law : FnScope ["script", "spring", "turn", "most", "longest"] ["script"] (defScope s_law) := ⟨rfl, rfl, rfl, by decide +kernel, rfl, by decide +kernel, by decide +kernel⟩
def sp_law (K : PySem.W.Frag) : Sp := fun vs H Q _ => ∃ (a : Addr) (ns : List Int), vs = [.ref a] ∧ SqL K H a (ns.map V.int) ∧ ns.length ≤ 63 ∧ ∀ H', Q (.bl true) H'
theorem fn_law {f : Addr} {fd : FuncData} (F : Fun K "law" "law" s_law f fd) (T : Tx mg)
    (G_law_spring : Has P w K mg base 1 "_law_spring" ["script"] (sp_law_spring K)) (G_law_draw : Has P w K mg base 1 "_law_draw" ["spring", "many"] sp_law_draw)
    (G_law_sequence : Has P w K mg base 2 "_law_sequence" ["spring", "most", "longest"] sp_law_sequence)
    (G_law_right : Has P w K mg base 8 "_law_right" ["spring", "sequence"] sp_law_right) :
    FnC P w K mg base f fd ["script"] (sp_law K) := by
  refine fnC_of F sc_law (fun vs H Q E h => ?_) (fun cdv outer s H vs Q E hr h => ?_)
  · obtain ⟨_, _, rfl, _⟩ := h
    rfl
  · obtain ⟨a, ns, rfl, hS, l63, q⟩ := h
    have hr := Room.deeper (show Room (9 + 1) callerA from ⟨rfl, by decide, by decide⟩) (envOfC "law" (defScope s_law) s.heap.objs.size f cdv)
    refine ⟨_, (pss_cons (ps_set (i := 1) sc_law.nd rfl (by first | exact Or.inl rfl | exact Or.inr rfl) (pe_callH G_law_spring (hr.mono (by omega)) (by rfl) (pa_cons (pv 0) pa_nil)))
    (pss_cons (ps_for PassesOwn.never rfl (pi_range1 (by rfl) T.n_range (pa_cons (pe_op op_add pe_int (pe_callB (call_min2 rfl) (by rfl) T.n_min (by decide +kernel) (pa_cons (pe_callB call_len_seq (by rfl) T.n_len (by decide +kernel) (pa_cons (pv 0) pa_nil)) (pa_cons pe_int pa_nil)))) pa_nil)) (pg_name (i := 2) sc_law.nd rfl (by first | exact Or.inl rfl | exact Or.inr rfl))
      (pss_cons (ps_par (i := 3) (j := 4) (by rfl) sc_law.nd rfl rfl (by decide) rfl rfl (pa_cons (pe_ix ix_list (pe_lst (pa_cons pe_int (pa_cons pe_int pa_nil))) (pe_callH G_law_draw (hr.mono (by omega)) (by rfl) (pa_cons (pv 1) (pa_cons pe_int pa_nil))) (fun _ _ => rfl)) (pa_cons (pe_ix ix_list (pe_lst (pa_cons pe_int (pa_cons (pe_op op_pow pe_int pe_int) pa_nil))) (pe_callH G_law_draw (hr.mono (by omega)) (by rfl) (pa_cons (pv 1) (pa_cons pe_int pa_nil))) (fun _ _ => rfl)) pa_nil)) (by rfl))
    (pss_one (ps_if (pt_not (pt_val (pe_callH G_law_right (hr.mono (by omega)) (by rfl) (pa_cons (pv 1) (pa_cons (pe_callH G_law_sequence (hr.mono (by omega)) (by rfl) (pa_cons (pv 1) (pa_cons (pv 3) (pa_cons (pv 4) pa_nil)))) pa_nil))))) (pss_one (ps_ret pe_bl)) pss_nil))))
    (pss_one (ps_ret pe_bl)))), ?_⟩
    refine ⟨_, rfl, a, ns, rfl, hS, l63, fun H1 sp s1 nsp z1 => ?_⟩
    refine ⟨_, rfl, a, _, rfl, .inl (s1.seq hS), _, _, rfl, _, _, rfl, rfl, _, rfl, ?_, ?_, for_range (lo := 0) (n := _) (fun i σ H' => ∃ y2 y3 y4, σ = [some (.ref a), some (.ref sp), y2, y3, y4] ∧ Spr H' sp)
      ⟨none, none, none, rfl, z1⟩ (fun i σ H2 hi hP => ?_) (fun σ H2 hP => q _)⟩
    · rw [List.length_map]
      split <;> omega
    · rw [List.length_map]
      split <;> omega
    · obtain ⟨y2, y3, y4, rfl, z2⟩ := hP
      clear z1
      refine ⟨(by show 2 ≤ sizeLine; decide), fun l nl => ?_⟩
      have sl := same_upd (o := .lst [.int 12, .int 400]) nl
      refine ⟨_, rfl, sp, 2, rfl, z2.same sl, by decide, by decide, fun H3 r3 b3 z3 g0 g1 => ?_⟩
      obtain ⟨m, em, hm⟩ := pick2 (x := 12) (y := 400) g0 g1
      refine ⟨l, _, r3, _, rfl, rfl, .of (b3 _ _ (Spr.ne z2 nl) upd_same), em, ?_⟩
      refine ⟨_, _, rfl, rfl, ⟨by decide, by decide, by decide⟩, (by show 2 ≤ sizeLine; decide), fun l2 nl2 => ?_⟩
      have sl2 := same_upd (o := .lst [.int 3, .int ((10 : Int) ^ ((30 : Int).toNat))]) nl2
      refine ⟨_, rfl, sp, 2, rfl, z3.same sl2, by decide, by decide, fun H4 r4 b4 z4 h0 h1 => ?_⟩
      obtain ⟨g, eg, hg⟩ := pick2 (x := 3) (y := (10 : Int) ^ ((30 : Int).toNat)) h0 h1
      refine ⟨l2, _, r4, _, rfl, rfl, .of (b4 _ _ (Spr.ne z3 nl2) upd_same), eg, _, _, rfl, ?_⟩
      have bm : 0 ≤ m ∧ m ≤ 400 := by omega
      have bg : 1 ≤ g ∧ g ≤ 1000000000000000000000000000000 := by
        rw [p30] at hg
        omega
      refine ⟨_, rfl, _, rfl, _, rfl, _, rfl, sp, m, g, rfl, z4, bm.1, bm.2, bg.1, bg.2, fun H5 p rs b5 z5 np hR ok lm lg => ?_⟩
      exact ⟨sp, p, rs, rfl, z5, hR, ok, fun H6 b6 z6 => ⟨true, rfl, iteF ⟨_, _, _, rfl, z6⟩⟩⟩
end
end UP

set_option Elab.async false
set_option linter.all false
set_option maxRecDepth 100000
set_option maxHeartbeats 4000000
namespace UP
open PySem PySem.Spec PyProof.Rows L2
section
variable {K : PySem.W.Frag} {h : Heap} {mg : Str → Option Value}
theorem df_mk {x : Str} {st : Stmt} {f : Addr} {od an : Option Addr} {sl : Array (Option Value)} {oc kV dc pm cd ct : Value} (X : K.In h) (G : h.Ns mainGlobals mg) (a : PySem.W.nsIn K mainGlobals x = some (some (.ref f)))
    (l : K.lookup f = some ⟨oc, od, .func (PySem.W.fnOf x x (defArgs st) (defBody st) (defScope st) .none kV dc pm an cd ct), sl⟩) (c : PySem.W.codeIn K cd x = true) (k : PySem.W.keepIn K (.ref f) = true) : Df K mg x st :=
  ⟨f, _, PySem.W.mg_of X G a, fun_mk l c k⟩
theorem dfd_mk {x : Str} {st : Stmt} {f T : Addr} {od an od2 : Option Addr} {sl sl2 : Array (Option Value)} {n2 : Nat} {oc kV dc pm cd ct oc2 : Value} (X : K.In h) (G : h.Ns mainGlobals mg) (a : PySem.W.nsIn K mainGlobals x = some (some (.ref f)))
    (l : K.lookup f = some ⟨oc, od, .func (PySem.W.fnOf x x (defArgs st) (defBody st) (defScope st) (.ref T) kV dc pm an cd ct), sl⟩) (t : K.lookup T = some ⟨oc2, od2, .seq #[.none] n2, sl2⟩) (c : PySem.W.codeIn K cd x = true) (k : PySem.W.keepIn K (.ref f) = true) : DfD K mg x st [.non] :=
  ⟨f, _, PySem.W.mg_of X G a, ⟨⟨oc, od, _, kV, dc, pm, an, cd, ct, sl, rfl, l, c, .inr ⟨(by intro z; cases z), T, _, [.none], n2, rfl, t, rfl, .cons rfl .nil⟩, .inl rfl⟩, k⟩⟩
theorem cst_mk {x : Str} {i : Int} {t : Tok} (X : K.In h) (G : h.Ns mainGlobals mg) (a : PySem.W.nsIn K mainGlobals x = some (some (.int i t))) : ∃ t, mg x = some (.int i t) := ⟨t, PySem.W.mg_of X G a⟩
end
/-- all that the top has written -/
structure Top (K : PySem.W.Frag) (mg : Str → Option Value) : Prop where
  T : Tx mg
  d_is_whole : Df K mg "is_whole" s_is_whole
  d_is_within : Df K mg "is_within" s_is_within
  d_is_listed : Df K mg "is_listed" s_is_listed
  d_is_couple : Df K mg "is_couple" s_is_couple
  d_is_kind : Df K mg "is_kind" s_is_kind
  d_is_run : Df K mg "is_run" s_is_run
  d_is_sequence : Df K mg "is_sequence" s_is_sequence
  d_is_state : Df K mg "is_state" s_is_state
  d_checked_runs : Df K mg "checked_runs" s_checked_runs
  d_check_position : Df K mg "check_position" s_check_position
  d_checked_state : Df K mg "checked_state" s_checked_state
  d_length_of : Df K mg "length_of" s_length_of
  d_cut : Df K mg "cut" s_cut
  d_kind_at : Df K mg "kind_at" s_kind_at
  d_part_of : Df K mg "part_of" s_part_of
  d_waiting_number : Df K mg "waiting_number" s_waiting_number
  d_state_with : Df K mg "state_with" s_state_with
  d_leaving_number : Df K mg "leaving_number" s_leaving_number
  d_state_after_run : Df K mg "state_after_run" s_state_after_run
  d_state_after_runs : Df K mg "state_after_runs" s_state_after_runs
  d_check_moment : Df K mg "check_moment" s_check_moment
  d_add_range : Df K mg "add_range" s_add_range
  d_without_first : Df K mg "without_first" s_without_first
  d_ranges_after_run : Df K mg "ranges_after_run" s_ranges_after_run
  d_state_after : DfD K mg "state_after" s_state_after [.non]
  d_state_at : DfD K mg "state_at" s_state_at [.non]
  d_waiting_at : Df K mg "waiting_at" s_waiting_at
  d_blocks_of_run : Df K mg "blocks_of_run" s_blocks_of_run
  d_add_block : Df K mg "add_block" s_add_block
  d_blocks_of : Df K mg "blocks_of" s_blocks_of
  d_pairs_in : Df K mg "pairs_in" s_pairs_in
  d_partner_in : Df K mg "partner_in" s_partner_in
  d_partner_of : Df K mg "partner_of" s_partner_of
  d_pair_count : DfD K mg "pair_count" s_pair_count [.non]
  d_pairs_of : Df K mg "pairs_of" s_pairs_of
  d_nth_pair : Df K mg "nth_pair" s_nth_pair
  d_longest_wait : Df K mg "longest_wait" s_longest_wait
  d_law_spring : Df K mg "_law_spring" s_law_spring
  d_law_draw : Df K mg "_law_draw" s_law_draw
  d_law_sequence : Df K mg "_law_sequence" s_law_sequence
  d_law_place : Df K mg "_law_place" s_law_place
  d_law_pair_right : Df K mg "_law_pair_right" s_law_pair_right
  d_law_right : Df K mg "_law_right" s_law_right
theorem Top.law {P : Program} {w : World} {K : PySem.W.Frag} {mg : Str → Option Value} (Y : Top K mg) {f : Addr} {fd : FuncData} (F : Fun K "law" "law" s_law f fd) (base : Heap) : FnC P w K mg base f fd ["script"] (sp_law K) := by
  have T := Y.T
  have g_is_whole := ok_is_whole (P := P) (w := w) (base := base) Y.d_is_whole T
  have g_is_within := ok_is_within (P := P) (w := w) (base := base) Y.d_is_within g_is_whole
  have g_is_listed := ok_is_listed (P := P) (w := w) (base := base) Y.d_is_listed T
  have g_is_couple := ok_is_couple (P := P) (w := w) (base := base) Y.d_is_couple T
  have g_is_kind := ok_is_kind (P := P) (w := w) (base := base) Y.d_is_kind T
  have g_is_run := ok_is_run (P := P) (w := w) (base := base) Y.d_is_run T g_is_couple g_is_kind g_is_within
  have g_is_state := ok_is_state (P := P) (w := w) (base := base) Y.d_is_state T g_is_couple g_is_kind g_is_whole
  have g_is_sequence := ok_is_sequence (P := P) (w := w) (base := base) Y.d_is_sequence T g_is_listed g_is_run
  have g_checked_runs := ok_checked_runs (P := P) (w := w) (base := base) Y.d_checked_runs T g_is_sequence
  have g_checked_state := ok_checked_state (P := P) (w := w) (base := base) Y.d_checked_state T g_is_state
  have g_length_of := ok_length_of (P := P) (w := w) (base := base) Y.d_length_of T
  have g_cut := ok_cut (P := P) (w := w) (base := base) Y.d_cut T
  have g_part_of := ok_part_of (P := P) (w := w) (base := base) Y.d_part_of T g_checked_runs g_length_of g_is_within g_cut
  have g_waiting_number := ok_waiting_number (P := P) (w := w) (base := base) Y.d_waiting_number
  have g_leaving_number := ok_leaving_number (P := P) (w := w) (base := base) Y.d_leaving_number T
  have g_state_with := ok_state_with (P := P) (w := w) (base := base) Y.d_state_with
  have g_state_after_run := ok_state_after_run (P := P) (w := w) (base := base) Y.d_state_after_run g_waiting_number g_state_with
  have g_state_after_runs := ok_state_after_runs (P := P) (w := w) (base := base) Y.d_state_after_runs g_state_after_run
  have g_check_moment := ok_check_moment (P := P) (w := w) (base := base) Y.d_check_moment g_is_within g_length_of
  have g_check_position := ok_check_position (P := P) (w := w) (base := base) Y.d_check_position g_is_within g_length_of
  have g_state_after := ok_state_after (P := P) (w := w) (base := base) Y.d_state_after g_checked_runs g_checked_state g_state_after_runs
  have g_state_at := ok_state_at (P := P) (w := w) (base := base) Y.d_state_at g_checked_runs g_checked_state g_state_after_runs g_check_moment g_cut
  have g_law_draw := ok_law_draw (P := P) (w := w) (base := base) Y.d_law_draw T
  have g_law_spring := ok_law_spring (P := P) (w := w) (base := base) Y.d_law_spring T
  have g_law_sequence := ok_law_sequence (P := P) (w := w) (base := base) Y.d_law_sequence T g_law_draw
  have g_without_first := ok_without_first (P := P) (w := w) (base := base) Y.d_without_first T
  have g_add_range := ok_add_range (P := P) (w := w) (base := base) Y.d_add_range
  have g_ranges_after_run := ok_ranges_after_run (P := P) (w := w) (base := base) Y.d_ranges_after_run g_without_first g_add_range
  have g_waiting_at := ok_waiting_at (P := P) (w := w) (base := base) Y.d_waiting_at g_checked_runs g_check_moment g_cut g_leaving_number g_ranges_after_run g_state_after_run
  have g_blocks_of_run := ok_blocks_of_run (P := P) (w := w) (base := base) Y.d_blocks_of_run T
  have g_add_block := ok_add_block (P := P) (w := w) (base := base) Y.d_add_block
  have g_blocks_of := ok_blocks_of (P := P) (w := w) (base := base) Y.d_blocks_of g_leaving_number g_blocks_of_run g_add_block g_ranges_after_run g_state_after_run
  have g_partner_in := ok_partner_in (P := P) (w := w) (base := base) Y.d_partner_in
  have g_partner_of := ok_partner_of (P := P) (w := w) (base := base) Y.d_partner_of g_checked_runs g_check_position g_blocks_of g_partner_in
  have g_pair_count := ok_pair_count (P := P) (w := w) (base := base) Y.d_pair_count g_checked_runs g_length_of g_check_moment g_cut g_state_after_runs g_waiting_number
  have g_pairs_in := ok_pairs_in (P := P) (w := w) (base := base) Y.d_pairs_in T
  have g_pairs_of := ok_pairs_of (P := P) (w := w) (base := base) Y.d_pairs_of g_checked_runs g_blocks_of
  have g_nth_pair := ok_nth_pair (P := P) (w := w) (base := base) Y.d_nth_pair g_checked_runs g_blocks_of g_pairs_in g_is_within
  have g_longest_wait := ok_longest_wait (P := P) (w := w) (base := base) Y.d_longest_wait g_checked_runs g_blocks_of
  have g_kind_at := ok_kind_at (P := P) (w := w) (base := base) Y.d_kind_at g_checked_runs g_check_position g_cut
  have g_law_place := ok_law_place (P := P) (w := w) (base := base) Y.d_law_place T g_law_draw
  have g_law_pair_right := ok_law_pair_right (P := P) (w := w) (base := base) Y.d_law_pair_right T g_law_draw g_nth_pair g_partner_of g_kind_at g_state_at g_waiting_at g_pair_count
  have g_law_right := ok_law_right (P := P) (w := w) (base := base) Y.d_law_right T g_law_draw g_pairs_of g_state_after g_pair_count g_longest_wait g_law_pair_right g_law_place g_part_of g_waiting_at
  exact fn_law F T g_law_spring g_law_draw g_law_sequence g_law_right
theorem all_mk {P : Program} {w : World} {K : PySem.W.Frag} {h : Heap} {mg : Str → Option Value} {fa f : Addr} {od an : Option Addr} {sl : Array (Option Value)} {oc kV dc pm cd ct : Value} (X : K.In h) (G : h.Ns mainGlobals mg) (hfa : mg "law" = some (.ref fa)) (a : PySem.W.nsIn K mainGlobals "law" = some (some (.ref f)))
    (l : K.lookup f = some ⟨oc, od, .func (PySem.W.fnOf "law" "law" (defArgs s_law) (defBody s_law) (defScope s_law) .none kV dc pm an cd ct), sl⟩) (c : PySem.W.codeIn K cd "law" = true) (k : PySem.W.keepIn K (.ref f) = true) (Y : Top K mg) :
    ∃ fd : FuncData, (∀ (s : Shared) (v : Value), BindsTo s fd ⟨[v], []⟩ [("script", v)]) ∧ ∀ base : Heap, K.In base → base.Ns mainGlobals mg → FnC P w K mg base fa fd ["script"] (sp_law K) := by
  have e := hfa.symm.trans (PySem.W.mg_of X G a)
  cases e
  exact ⟨_, fun s v => .of_eq rfl, fun base _ _ => Y.law (fun_mk (st := s_law) l c k) base⟩
end UP
open PySem PySem.W PyProof.Rows
set_option maxHeartbeats 0 in
theorem PySem.Challenge.cw_unlikepairs_k14_whole_pairs_and_waiting_holds : PySem.Challenge.rw_unlikepairs_k14_whole_pairs_and_waiting.Holds := by
  w_on; o_law; k_head; (case hw => w_witness2)
  k_fill
  refine UP.walkC (l := PySem.Challenge.rw_unlikepairs_k14_whole_pairs_and_waiting) (n := 63) (x := "script") (sp := fun w => UP.sp_law _) rfl (by decide) rfl (fun w h Y => PySem.W.kIn_of Y) ?F (fun _ _ a ns hl hS => ⟨a, ns, rfl, hS, hl, fun _ => rfl⟩)
  case F =>
    intro w mg fa h KX G hmg
    refine' UP.all_mk KX G hmg ?a ?l ?c ?k ?Y
    (case a => k_is); (case l => k_is); (case c => k_is); (case k => k_is)
    case Y =>
      constructor
      · constructor
        · refine' PySem.W.mg_none_of KX G ?z; (case z => k_is)
        · refine' PySem.W.mg_none_of KX G ?z; (case z => k_is)
        · refine' PySem.W.mg_none_of KX G ?z; (case z => k_is)
        · refine' PySem.W.mg_none_of KX G ?z; (case z => k_is)
        · refine' PySem.W.mg_none_of KX G ?z; (case z => k_is)
        · refine' PySem.W.mg_none_of KX G ?z; (case z => k_is)
        · refine' PySem.W.mg_none_of KX G ?z; (case z => k_is)
        · refine' PySem.W.mg_none_of KX G ?z; (case z => k_is)
        · refine' PySem.W.mg_none_of KX G ?z; (case z => k_is)
        · refine' PySem.W.mg_none_of KX G ?z; (case z => k_is)
        · refine' PySem.W.mg_none_of KX G ?z; (case z => k_is)
        · refine' PySem.W.mg_none_of KX G ?z; (case z => k_is)
        · refine' PySem.W.mg_none_of KX G ?z; (case z => k_is)
        · refine' PySem.W.mg_none_of KX G ?z; (case z => k_is)
        · refine' PySem.W.mg_none_of KX G ?z; (case z => k_is)
        · refine' PySem.W.mg_none_of KX G ?z; (case z => k_is)
        · refine' PySem.W.mg_none_of KX G ?z; (case z => k_is)
        · refine' PySem.W.mg_none_of KX G ?z; (case z => k_is)
        · refine' PySem.W.mg_none_of KX G ?z; (case z => k_is)
        · refine' PySem.W.mg_none_of KX G ?z; (case z => k_is)
        · refine' PySem.W.mg_none_of KX G ?z; (case z => k_is)
        · refine' UP.cst_mk KX G ?z; (case z => k_is)
        · refine' UP.cst_mk KX G ?z; (case z => k_is)
        · refine' UP.cst_mk KX G ?z; (case z => k_is)
      · refine' UP.df_mk KX G ?a ?l ?c ?k; (case a => k_is); (case l => k_is); (case c => k_is); (case k => k_is)
      · refine' UP.df_mk KX G ?a ?l ?c ?k; (case a => k_is); (case l => k_is); (case c => k_is); (case k => k_is)
      · refine' UP.df_mk KX G ?a ?l ?c ?k; (case a => k_is); (case l => k_is); (case c => k_is); (case k => k_is)
      · refine' UP.df_mk KX G ?a ?l ?c ?k; (case a => k_is); (case l => k_is); (case c => k_is); (case k => k_is)
      · refine' UP.df_mk KX G ?a ?l ?c ?k; (case a => k_is); (case l => k_is); (case c => k_is); (case k => k_is)
      · refine' UP.df_mk KX G ?a ?l ?c ?k; (case a => k_is); (case l => k_is); (case c => k_is); (case k => k_is)
      · refine' UP.df_mk KX G ?a ?l ?c ?k; (case a => k_is); (case l => k_is); (case c => k_is); (case k => k_is)
      · refine' UP.df_mk KX G ?a ?l ?c ?k; (case a => k_is); (case l => k_is); (case c => k_is); (case k => k_is)
      · refine' UP.df_mk KX G ?a ?l ?c ?k; (case a => k_is); (case l => k_is); (case c => k_is); (case k => k_is)
      · refine' UP.df_mk KX G ?a ?l ?c ?k; (case a => k_is); (case l => k_is); (case c => k_is); (case k => k_is)
      · refine' UP.df_mk KX G ?a ?l ?c ?k; (case a => k_is); (case l => k_is); (case c => k_is); (case k => k_is)
      · refine' UP.df_mk KX G ?a ?l ?c ?k; (case a => k_is); (case l => k_is); (case c => k_is); (case k => k_is)
      · refine' UP.df_mk KX G ?a ?l ?c ?k; (case a => k_is); (case l => k_is); (case c => k_is); (case k => k_is)
      · refine' UP.df_mk KX G ?a ?l ?c ?k; (case a => k_is); (case l => k_is); (case c => k_is); (case k => k_is)
      · refine' UP.df_mk KX G ?a ?l ?c ?k; (case a => k_is); (case l => k_is); (case c => k_is); (case k => k_is)
      · refine' UP.df_mk KX G ?a ?l ?c ?k; (case a => k_is); (case l => k_is); (case c => k_is); (case k => k_is)
      · refine' UP.df_mk KX G ?a ?l ?c ?k; (case a => k_is); (case l => k_is); (case c => k_is); (case k => k_is)
      · refine' UP.df_mk KX G ?a ?l ?c ?k; (case a => k_is); (case l => k_is); (case c => k_is); (case k => k_is)
      · refine' UP.df_mk KX G ?a ?l ?c ?k; (case a => k_is); (case l => k_is); (case c => k_is); (case k => k_is)
      · refine' UP.df_mk KX G ?a ?l ?c ?k; (case a => k_is); (case l => k_is); (case c => k_is); (case k => k_is)
      · refine' UP.df_mk KX G ?a ?l ?c ?k; (case a => k_is); (case l => k_is); (case c => k_is); (case k => k_is)
      · refine' UP.df_mk KX G ?a ?l ?c ?k; (case a => k_is); (case l => k_is); (case c => k_is); (case k => k_is)
      · refine' UP.df_mk KX G ?a ?l ?c ?k; (case a => k_is); (case l => k_is); (case c => k_is); (case k => k_is)
      · refine' UP.df_mk KX G ?a ?l ?c ?k; (case a => k_is); (case l => k_is); (case c => k_is); (case k => k_is)
      · refine' UP.dfd_mk KX G ?a ?l ?t ?c ?k; (case a => k_is); (case l => k_is); (case t => k_is); (case c => k_is); (case k => k_is)
      · refine' UP.dfd_mk KX G ?a ?l ?t ?c ?k; (case a => k_is); (case l => k_is); (case t => k_is); (case c => k_is); (case k => k_is)
      · refine' UP.df_mk KX G ?a ?l ?c ?k; (case a => k_is); (case l => k_is); (case c => k_is); (case k => k_is)
      · refine' UP.df_mk KX G ?a ?l ?c ?k; (case a => k_is); (case l => k_is); (case c => k_is); (case k => k_is)
      · refine' UP.df_mk KX G ?a ?l ?c ?k; (case a => k_is); (case l => k_is); (case c => k_is); (case k => k_is)
      · refine' UP.df_mk KX G ?a ?l ?c ?k; (case a => k_is); (case l => k_is); (case c => k_is); (case k => k_is)
      · refine' UP.df_mk KX G ?a ?l ?c ?k; (case a => k_is); (case l => k_is); (case c => k_is); (case k => k_is)
      · refine' UP.df_mk KX G ?a ?l ?c ?k; (case a => k_is); (case l => k_is); (case c => k_is); (case k => k_is)
      · refine' UP.df_mk KX G ?a ?l ?c ?k; (case a => k_is); (case l => k_is); (case c => k_is); (case k => k_is)
      · refine' UP.dfd_mk KX G ?a ?l ?t ?c ?k; (case a => k_is); (case l => k_is); (case t => k_is); (case c => k_is); (case k => k_is)
      · refine' UP.df_mk KX G ?a ?l ?c ?k; (case a => k_is); (case l => k_is); (case c => k_is); (case k => k_is)
      · refine' UP.df_mk KX G ?a ?l ?c ?k; (case a => k_is); (case l => k_is); (case c => k_is); (case k => k_is)
      · refine' UP.df_mk KX G ?a ?l ?c ?k; (case a => k_is); (case l => k_is); (case c => k_is); (case k => k_is)
      · refine' UP.df_mk KX G ?a ?l ?c ?k; (case a => k_is); (case l => k_is); (case c => k_is); (case k => k_is)
      · refine' UP.df_mk KX G ?a ?l ?c ?k; (case a => k_is); (case l => k_is); (case c => k_is); (case k => k_is)
      · refine' UP.df_mk KX G ?a ?l ?c ?k; (case a => k_is); (case l => k_is); (case c => k_is); (case k => k_is)
      · refine' UP.df_mk KX G ?a ?l ?c ?k; (case a => k_is); (case l => k_is); (case c => k_is); (case k => k_is)
      · refine' UP.df_mk KX G ?a ?l ?c ?k; (case a => k_is); (case l => k_is); (case c => k_is); (case k => k_is)
      · refine' UP.df_mk KX G ?a ?l ?c ?k; (case a => k_is); (case l => k_is); (case c => k_is); (case k => k_is)
