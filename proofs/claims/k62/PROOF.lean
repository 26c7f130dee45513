import PyProof.Rows.All
import Wide.All
import OpenK.AllK
import Wide.FinOn
import HandS.ForMost
import HandS.Wide
import HandS.IsInst
import HandS.Defaults
import HandS.Codes
import HandS.Style
import PyProof.ReprRoads
import PyProof.ReprLen
import HandS.Zip
import HandS.NoneIn
import HandS.TupAny
import HandS.DictTup
import HandS.SortRule
import HandS.SortOrd
import HandS.ListItems
import KE.KDictWalk
import HandS.SortInts
import KE.KeyNested
import PyProof.DictRoadsH
import HandS.Deep
import HandS.SetFor
import HandS.RevRange
import HandS.Walk
import HandS.TupSets
import HandS.WordsExc
import HandS.ExcCtx
import HandS.ExcOwn
import HandS.TryOnly
import PySem.Challenge.RW_unlikepairs_k62_whole_effects_and_rounds
set_option Elab.async false
set_option linter.all false
set_option maxRecDepth 100000
set_option maxHeartbeats 4000000
namespace UP
open PySem PySem.Spec PyProof.Rows L2

/-! ### a def that keeps a promise, by its name -/
section
variable (P : Program) (w : World) (K : PySem.W.Frag) (mg : Str → Option Value) (base : Heap)
def Has (k : Nat) (x : Str) (ps : List Str) (sp : Sp) : Prop :=
  ∃ f fd, mg x = some (.ref f) ∧ PySem.W.keepIn K (.ref f) = true ∧ Binds K fd ps [] ∧ FnOk P w K mg base CX0 k f fd ps sp
def Df (x : Str) (st : Stmt) : Prop := ∃ f fd, mg x = some (.ref f) ∧ Fun K x x st f fd
end
theorem Df.of {K : PySem.W.Frag} {mg : Str → Option Value} {x : Str} {st : Stmt} {f : Addr} {fd : FuncData} (g : mg x = some (.ref f)) (F : Fun K x x st f fd) : Df K mg x st := ⟨f, fd, g, F⟩
section
variable {P : Program} {w : World} {K : PySem.W.Frag} {mg : Str → Option Value} {base : Heap}
theorem has_of {x : Str} {st : Stmt} {ps N : List Str} {k : Nat} {sp : Sp} (D : Df K mg x st) (S : FnScope N ps (defScope st))
    (hb : ∀ (kV doc pm : Value) (an : Option Addr) (cdv ct : Value) (us : List Value), us.length = ps.length → bindArgs (PySem.W.fnOf x x (defArgs st) (defBody st) (defScope st) .none kV doc pm an cdv ct) ⟨us, []⟩ = pure (ps.zip us))
    (len : ∀ vs H Q E, sp vs H Q E → vs.length = ps.length)
    (body : ∀ (f : Addr) (cdv : Value) (A : Around) (outer : List Env) (s : Shared) (H : Hp) (vs : List V) (Q : VK) (E : XK), Room k (A.deeper (envOfC x (defScope st) s.heap.objs.size f cdv)) → sp vs H Q E →
      ∃ t, PSs (cxOf CX0 P w K mg base N x (defScope st) f cdv A outer s H E).nox (defBody st) t ∧ t { nx := fun _ H' => Q .non H', rt := Q } (start N vs) H) :
    Has P w K mg base (k + 1) x ps sp := by
  obtain ⟨f, fd, g, F⟩ := D
  exact ⟨f, fd, g, F.kp, F.binds hb, F.ok S len fun cdv A outer s H vs Q E hr h => body f cdv A outer s H vs Q E hr h⟩
theorem Has.weak {x : Str} {ps : List Str} {k : Nat} {sp sp' : Sp} (h : Has P w K mg base k x ps sp) (e : sp = sp') : Has P w K mg base k x ps sp' := e ▸ h
end
section
variable {X : Cx}
theorem pe_callH {k : Nat} {x : Str} {ps : List Str} {sp : Sp} {p pos : Pos} {e : Expr} {es : List Expr} {t : TA} (G : Has X.prog X.w X.K X.mg X.base k x ps sp) (hr : Room k X.A) (hg : Gl X x) (ha : PA X (e :: es) t)
    (hdb : (x == ("__debug__" : Str)) = false := by decide) (he : starEach (e :: es) X.env = (false, eval e X.env) :: starEach es X.env := by rfl) (hpl : (backTo pos (starEach es X.env)).any (·.1) = false := by rfl) :
    PE X (.Call (.Name x p) (e :: es) [] pos) (tCall sp [] E0 t) := by
  obtain ⟨f, fd, g, kp, b, F⟩ := G
  exact pe_call F hr hg g kp b .nil pass0 ha hdb he hpl
theorem pe_glI {x : Str} {i : Int} {pos : Pos} (h : ∃ t, X.mg x = some (.int i t)) (hg : Gl X x) (hd : (x == ("__debug__" : Str)) = false := by decide) : PE X (.Name x pos) (tC (.int i)) := by
  obtain ⟨t, h⟩ := h
  exact pe_glob hg h ⟨t, rfl⟩ hd
end

/-! ### heaps -/
theorem same_upd {H : Hp} {p : Addr} {o : HO} (h : H p = none) : Same H (upd H p o) := fun b x e => by
  rw [upd_ne (ne_of_none e h)]
  exact e
/-- all but the object at sp is as it was -/
def But (sp : Addr) (H H' : Hp) : Prop := ∀ b o, b ≠ sp → H b = some o → H' b = some o
theorem Same.but {sp : Addr} {H H' : Hp} (h : Same H H') : But sp H H' := fun b o _ e => h b o e
theorem But.trans {sp : Addr} {H H1 H2 : Hp} (a : But sp H H1) (b : But sp H1 H2) : But sp H H2 := fun c o n e => b c o n (a c o n e)
theorem But.refl {sp : Addr} {H : Hp} : But sp H H := fun _ _ _ e => e
theorem but_upd {sp : Addr} {H : Hp} {o : HO} : But sp H (upd H sp o) := fun b x n e => by
  rw [upd_ne n]
  exact e
theorem small {n : Nat} (h : n ≤ 1000000) : n < sizeLine := Nat.lt_of_le_of_lt h (by decide)
theorem smallE {n : Nat} (h : n ≤ 1000000) : n ≤ sizeLine := Nat.le_of_lt (small h)

/-! ### runs and states -/
abbrev Run := Str × Int
def RunV (H : Hp) (v : V) (r : Run) : Prop := ∃ t, v = .ref t ∧ H t = some (.tup [.str r.1, .int r.2])
def Runs (H : Hp) (a : Addr) (rs : List Run) : Prop := ∃ xs, H a = some (.lst xs) ∧ Paired (RunV H) xs rs
def StV (H : Hp) (v : V) : Option Run → Prop
  | none => v = .non
  | some r => RunV H v r
theorem RunV.same {H H' : Hp} {v : V} {r : Run} (s : Same H H') (h : RunV H v r) : RunV H' v r := by
  obtain ⟨t, e, h⟩ := h
  exact ⟨t, e, s _ _ h⟩
theorem Paired.len {α β : Type} {F : α → β → Prop} : ∀ {l₁ : List α} {l₂ : List β}, Paired F l₁ l₂ → l₁.length = l₂.length
  | _, _, .nil => rfl
  | _, _, .cons _ t => congrArg Nat.succ (Paired.len t)
theorem Paired.at {α β : Type} {F : α → β → Prop} : ∀ {l₁ : List α} {l₂ : List β} {i : Nat} {x : α}, Paired F l₁ l₂ → l₁[i]? = some x → ∃ y, l₂[i]? = some y ∧ F x y
  | _, _, _, _, .nil, h => by simp at h
  | _, _, 0, _, .cons h _, e => by
    simp only [List.getElem?_cons_zero, Option.some.injEq] at e
    subst e
    exact ⟨_, by simp, h⟩
  | _, _, i + 1, _, .cons _ t, e => by
    simp only [List.getElem?_cons_succ] at e ⊢
    exact Paired.at t e
theorem Paired.at' {α β : Type} {F : α → β → Prop} : ∀ {l₁ : List α} {l₂ : List β} {i : Nat} {y : β}, Paired F l₁ l₂ → l₂[i]? = some y → ∃ x, l₁[i]? = some x ∧ F x y
  | _, _, _, _, .nil, h => by simp at h
  | _, _, 0, _, .cons h _, e => by
    simp only [List.getElem?_cons_zero, Option.some.injEq] at e
    subst e
    exact ⟨_, by simp, h⟩
  | _, _, i + 1, _, .cons _ t, e => by
    simp only [List.getElem?_cons_succ] at e ⊢
    exact Paired.at' t e
theorem Paired.imp {α β : Type} {F G : α → β → Prop} (f : ∀ a b, F a b → G a b) : ∀ {l₁ : List α} {l₂ : List β}, Paired F l₁ l₂ → Paired G l₁ l₂
  | _, _, .nil => .nil
  | _, _, .cons h t => .cons (f _ _ h) (Paired.imp f t)
theorem Paired.app {α β : Type} {F : α → β → Prop} : ∀ {l₁ m₁ : List α} {l₂ m₂ : List β}, Paired F l₁ l₂ → Paired F m₁ m₂ → Paired F (l₁ ++ m₁) (l₂ ++ m₂)
  | _, _, _, _, .nil, h => h
  | _, _, _, _, .cons h t, k => .cons h (Paired.app t k)
theorem Paired.dropp {α β : Type} {F : α → β → Prop} : ∀ {l₁ : List α} {l₂ : List β} (n : Nat), Paired F l₁ l₂ → Paired F (l₁.drop n) (l₂.drop n)
  | _, _, 0, h => h
  | _, _, n + 1, .nil => .nil
  | _, _, n + 1, .cons _ t => by
    simp only [List.drop_succ_cons]
    exact Paired.dropp n t
theorem Paired.takep {α β : Type} {F : α → β → Prop} : ∀ {l₁ : List α} {l₂ : List β} (n : Nat), Paired F l₁ l₂ → Paired F (l₁.take n) (l₂.take n)
  | _, _, 0, h => by simp only [List.take_zero]; exact .nil
  | _, _, n + 1, .nil => .nil
  | _, _, n + 1, .cons h t => by
    simp only [List.take_succ_cons]
    exact .cons h (Paired.takep n t)
theorem Runs.same {H H' : Hp} {a : Addr} {rs : List Run} (s : Same H H') (h : Runs H a rs) : Runs H' a rs := by
  obtain ⟨xs, e, p⟩ := h
  exact ⟨xs, s _ _ e, Paired.imp (fun _ _ => RunV.same s) p⟩
theorem StV.same {H H' : Hp} {v : V} {st : Option Run} (s : Same H H') (h : StV H v st) : StV H' v st := by
  cases st with
  | none => exact h
  | some r => exact RunV.same s h
/-- the spring: a list of three ints -/
def Spr (H : Hp) (sp : Addr) : Prop := ∃ d s c : Int, H sp = some (.lst [.int d, .int s, .int c]) ∧ 0 ≤ d ∧ d.natAbs < 2 ^ 20000 ∧ 0 ≤ s ∧ s < 2305843009213693951
theorem RunV.but {H H' : Hp} {sp : Addr} {v : V} {r : Run} (z : Spr H sp) (s : But sp H H') (h : RunV H v r) : RunV H' v r := by
  obtain ⟨t, e, h⟩ := h
  obtain ⟨_, _, _, hs, _⟩ := z
  exact ⟨t, e, s _ _ (ne_of h hs (by intro q; cases q)) h⟩
theorem Runs.ne {H : Hp} {sp a : Addr} {rs : List Run} (z : Spr H sp) (h : Runs H a rs) : a ≠ sp := by
  obtain ⟨xs, e, p⟩ := h
  obtain ⟨d, s, c, hs, _⟩ := z
  refine ne_of e hs fun q => ?_
  have q := HO.lst.inj q
  subst q
  cases p with
  | cons h _ =>
    obtain ⟨t, e, _⟩ := h
    cases e
theorem Runs.but {H H' : Hp} {sp a : Addr} {rs : List Run} (z : Spr H sp) (s : But sp H H') (h : Runs H a rs) : Runs H' a rs := by
  have n := Runs.ne z h
  obtain ⟨xs, e, p⟩ := h
  exact ⟨xs, s _ _ n e, Paired.imp (fun _ _ => RunV.but z s) p⟩
theorem StV.but {H H' : Hp} {sp : Addr} {v : V} {st : Option Run} (z : Spr H sp) (s : But sp H H') (h : StV H v st) : StV H' v st := by
  cases st with
  | none => exact h
  | some r => exact RunV.but z s h
theorem Spr.same {H H' : Hp} {sp : Addr} (z : Spr H sp) (s : Same H H') : Spr H' sp := by
  obtain ⟨d, e, c, hs, r⟩ := z
  exact ⟨d, e, c, s _ _ hs, r⟩
def KindOk (s : Str) : Prop := 1 ≤ s.length ∧ s.length ≤ 8 ∧ ∀ c ∈ s.cps.toList, 97 ≤ c ∧ c ≤ 122
def RunOk (r : Run) : Prop := KindOk r.1 ∧ 1 ≤ r.2 ∧ r.2 ≤ 1000000000000000000000000000000
def Alt (rs : List Run) : Prop := ∀ (i : Nat) (x y : Run), rs[i]? = some x → rs[i + 1]? = some y → x.1 ≠ y.1
def SeqOk (rs : List Run) : Prop := rs.length ≤ 400 ∧ (∀ r ∈ rs, RunOk r) ∧ Alt rs
end UP

set_option Elab.async false
set_option linter.all false
set_option maxRecDepth 100000
set_option maxHeartbeats 4000000
namespace UP
open PySem PySem.Spec PyProof.Rows L2
/-! ### repr of plain data, where no other repr is under way -/
def rRepr (K : PySem.W.Frag) : List V → Hp → VK → Prop := fun xs H Q => ∃ (a : Addr) (d : PyData), xs = [.ref a] ∧ Dp K H (.ref a) d ∧ d.showable = true ∧ SeqAt.shaped d = true ∧ d.shown.length ≤ sizeLine ∧ Q (.str d.shown) H
theorem call_reprD {X : Cx} (hg : X.A.guards = some []) (hu : X.A.units + 70 < cLine) : CallR X (.builtin "repr") (rRepr X.K) := by
  intro pins s σ H xs us Q I r h
  obtain ⟨a, d, rfl, dp, sh, sp, sz, q⟩ := h
  obtain ⟨u, rfl, ru⟩ := vals1 r
  cases (show u = Value.ref a from ru)
  obtain ⟨as, rd⟩ := Dp.reads I d (.ref a) (.ref a) dp rfl
  have dd := SeqAt.depth_of_shaped sp
  refine repr_of_reads' rd sh (PyData.noDict_hsm (PyData.hasDict_of_canLay d (SeqAt.canLay_of_shaped sp))) hg (by omega) (fun _ _ e => e) (fun h' u tk hk => ?_) sz
  exact ⟨.str d.shown, H, I.kept (t' := tk) hk, ⟨u, rfl⟩, q⟩
/-! ### the law's own call, around it nothing -/
structure FnC (P : Program) (w : World) (K : PySem.W.Frag) (mg : Str → Option Value) (base : Heap) (f : Addr) (fd : FuncData) (ps : List Str) (sp : Sp) : Prop where
  go : ∀ (out : List Env) (s : Shared) (H : Hp) (args : Args) (us : List Value) (vs : List V) (Q : VK) (E : XK), Env0 P w K mg base callerA out s H → BindsTo s fd args (ps.zip us) → Vals vs us → sp vs H Q E →
    codeAny (model P w) callerA (.call (.ref f) args) (CR CX0 out P w H s Q E) s
theorem callerA_room : Room 8 callerA := ⟨rfl, by decide, by decide⟩
section
variable {P : Program} {w : World} {K : PySem.W.Frag} {mg : Str → Option Value} {base : Heap}
theorem fnC_of {x : Str} {st : Stmt} {f : Addr} {fd : FuncData} {ps N : List Str} {sp : Sp} (F : Fun K x x st f fd) (S : FnScope N ps (defScope st)) (len : ∀ vs H Q E, sp vs H Q E → vs.length = ps.length)
    (body : ∀ (cdv : Value) (out : List Env) (s : Shared) (H : Hp) (vs : List V) (Q : VK) (E : XK), Room 7 (callerA.deeper (envOfC x (defScope st) s.heap.objs.size f cdv)) → sp vs H Q E →
      ∃ t, PSs (cxOf CX0 P w K mg base N x (defScope st) f cdv callerA out s H E).nox (defBody st) t ∧ t { nx := fun _ H' => Q .non H', rt := Q } (start N vs) H) : FnC P w K mg base f fd ps sp := by
  obtain ⟨oc, od, kV, doc, pm, an, cdv, ct, osl, rfl, lk, hcd⟩ := F.ex
  refine ⟨fun out s H args us vs Q E e0 hb rv hsp => ?_⟩
  have inS : K.In s.heap := e0.mod.kin.keeps fun b o z => (e0.bs b o z).1
  have noL : s.heap.NoLimit := e0.mod.nolimit.keeps fun b o z => (e0.bs b o z).1
  have kinds : ∀ y ∈ ps.zip us, (defScope st).names.lookup y.1 = some .local ∨ ((defScope st).names.lookup y.1 = some .cell ∧ ((cellsFrom (s.heap.objs.size + 1) (defScope st).names []).lookup y.1).isSome = true) := by
    intro y hy
    rcases S.par y.1 (List.of_mem_zip (a := y.1) (b := y.2) hy).1 with z | z
    · exact Or.inl z
    · exact Or.inr ⟨z, PySem.W.cellsFrom_some _ _ _ (Or.inl z)⟩
  refine codeAny_call_function callerA_room.depth (inS _ _ lk) rfl S.co S.gen rfl (PySem.W.codeRec_of inS hcd) (hb _ _ _ _ ?_)
  refine wpAny_newFunctionEnv_cells S.kind kinds fun env he s1 inC => ?_
  subst he
  refine ⟨noL.keeps inC.toInCall.keep, codeAny_func ?_⟩
  obtain ⟨t, ht0, hq⟩ := body cdv out s H vs Q E (callerA_room.deeper _) hsp
  have ht := PSs.nox ht0
  have I0 : Inv (cxOf CX0 P w K mg base N x (defScope st) f cdv callerA out s H E) [] (start N vs) H s1 := inv_start S rfl e0 (len _ _ _ _ hsp) rv inC
  refine wpAny_mono (ht.run [] s1 (start N vs) H _ I0 hq) (fun fl s2 h2 => ?_) fun _ _ z => z
  cases fl with
  | next =>
    obtain ⟨σ2, H2, J, q2⟩ := h2
    exact ⟨V.non, H2, J.os, J.bare, J.base, J.hok, rfl, q2⟩
  | ret u =>
    obtain ⟨v, σ2, H2, J, rv2, q2⟩ := h2
    exact ⟨v, H2, J.os, J.bare, J.base, J.hok, rv2, q2⟩
  | brk =>
    obtain ⟨_, _, _, z⟩ := h2
    exact z.elim
  | cont =>
    obtain ⟨_, _, _, z⟩ := h2
    exact z.elim
end
/-- the heap that holds the script alone, locked -/
def oneH (a : Addr) (o : Obj) (xs : List V) : Hp := fun b => if b = a then some (.frz o (.lst xs)) else none
theorem run_law {P : Program} {w : World} {K : PySem.W.Frag} {mg mb : Str → Option Value} {fa a : Addr} {fd : FuncData} {x : Str} {sp : Sp} {s : Shared} {vs : List Value} {ns : List Int}
    (kx : K.In s.heap) (gns : s.heap.Ns mainGlobals mg) (bns : s.heap.Ns builtinsNs mb) (bb : ∀ y : Str, y ≠ "__name__" → mb y = bootBuiltins y) (nl : s.heap.NoLimit) (gens : s.gens = #[])
    (ob : s.heap.get? a = some { cls := .type "list", data := .seq vs.toArray }) (hin : IntsAre vs ns) (len : ns.length ≤ sizeLine) (F : ∀ base : Heap, K.In base → base.Ns mainGlobals mg → FnC P w K mg base fa fd [x] sp)
    (bind : ∀ (s : Shared) (u : Value), BindsTo s fd ⟨[u], []⟩ [(x, u)]) (hsp : ∀ H : Hp, SqL K H a (ns.map V.int) → sp [.ref a] H (fun v _ => v = .bl true) fun _ _ _ => False) :
    codeAny (model P w) callerA (.call (.ref fa) ⟨[.ref a], []⟩) (fun r s' => r = .ok (.ret (.bool true)) ∧ OldK s.heap s'.heap ∧ s'.os = s.os ∧ AllBare s'.gens) s := by
  have rel := vals_ints hin
  have step : ∀ H : Hp, (H = (fun _ => none) ∨ (H = oneH a { cls := .type "list", data := .seq vs.toArray } (ns.map V.int) ∧ K.lookup a = none)) → SqL K H a (ns.map V.int) → HOk P w H s.heap →
      codeAny (model P w) callerA (.call (.ref fa) ⟨[.ref a], []⟩) (fun r s' => r = .ok (.ret (.bool true)) ∧ OldK s.heap s'.heap ∧ s'.os = s.os ∧ AllBare s'.gens) s := by
    intro H hH hS hok
    have only : ∀ b u, H b = some u → b = a ∧ u = .frz { cls := .type "list", data := .seq vs.toArray } (.lst (ns.map V.int)) ∧ K.lookup a = none := by
      intro b u e
      rcases hH with z | ⟨z, z2⟩
      · rw [z] at e
        cases e
      · rw [z] at e
        by_cases hb : b = a
        · have e := (if_pos hb).symm.trans e
          cases e
          exact ⟨hb, rfl, z2⟩
        · have e := (if_neg hb).symm.trans e
          cases e
    have free : ∀ {b : Addr} {o : Obj}, s.heap.get? b = some o → (b = a → False) → (hidT s.heap H).get? b = some o := by
      intro b o e n
      refine hidT_get e ?_
      cases q : H b with
      | none => rfl
      | some u => exact (n (only b u q).1).elim
    have nss : ∀ {b : Addr} {m : Str → Option Value}, s.heap.Ns b m → (hidT s.heap H).Ns b m := by
      intro b m ⟨o, es, ep, e, d, r⟩
      refine ⟨o, es, ep, free e fun z => ?_, d, r⟩
      subst z
      rw [ob] at e
      cases e
      cases d
    have kb : K.In (hidT s.heap H) := by
      intro b o e
      refine hidT_get (kx b o e) ?_
      cases q : H b with
      | none => rfl
      | some u =>
        obtain ⟨z1, _, z2⟩ := only b u q
        rw [z1, z2] at e
        cases e
    have md : Mod K mg (hidT s.heap H) := ⟨kb, nss gns, ⟨mb, nss bns, bb⟩, by obtain ⟨mc, h1, h2⟩ := nl; exact ⟨mc, nss h1, h2⟩⟩
    have env : Env0 P w K mg (hidT s.heap H) callerA [] s H := ⟨rfl, md, fun b o e => of_hidT e, Nat.le_of_eq (hidT_size _ _), trivial, (fun b hb => by cases hb), hok, .of_eq gens⟩
    refine codeAny_mono ((F _ kb (nss gns)).go [] s H ⟨[.ref a], []⟩ [.ref a] [.ref a] _ _ env (bind s (.ref a)) (.cons rfl .nil) (hsp H hS)) fun r s' h => ?_
    cases r with
    | error e => exact h.elim
    | ok fl =>
      cases fl with
      | next => exact h.elim
      | brk => exact h.elim
      | cont => exact h.elim
      | ret u =>
        obtain ⟨v, H', o1, o2, un, hok', rv, q⟩ := h
        have q : v = .bl true := q
        subst q
        cases (show u = Value.bool true from rv)
        refine ⟨rfl, OldK.of_keep fun b o e => ?_, o1, o2⟩
        cases q : H b with
        | none => exact un.keep b o e q (fun z => by cases z) (fun z => by cases z)
        | some u =>
          obtain ⟨_, z, _⟩ := only b u q
          subst z
          obtain ⟨e1, _⟩ := hok b _ q
          obtain ⟨e2, _⟩ := hok' b _ (un.frzs b _ _ q)
          rw [e] at e1
          cases e1
          exact e2
  cases hk : K.lookup a with
  | some o =>
    have e := kx a o hk
    rw [ob] at e
    cases e
    refine step (fun _ => none) (.inl rfl) (.inr ⟨_, vs.toArray, _, hk, rfl, rfl, rfl, ?_, by simpa using rel⟩) fun b u z => by cases z
    rw [List.size_toArray, hin.length]
    exact len
  | none =>
    have at_a : oneH a { cls := .type "list", data := .seq vs.toArray } (ns.map V.int) a = some (.frz { cls := .type "list", data := .seq vs.toArray } (.lst (ns.map V.int))) := if_pos rfl
    refine step _ (.inr ⟨rfl, hk⟩) (.inl (.inr ⟨_, at_a⟩)) fun b u z => ?_
    by_cases hb : b = a
    · subst hb
      rw [at_a] at z
      cases z
      exact ⟨ob, by rw [List.length_map]; exact len, vs, _, rel, ob⟩
    · have z := (if_neg hb).symm.trans z
      cases z
theorem walkC {l : PySem.W.OpenLaw} {n : Nat} {q : Program} {loose : List Str} {XP : (Str → Option Value) → Heap → Prop} {YP : World → Heap → Prop} {d : DefRec} {K : Params → PySem.W.Frag} {sp : World → Sp} {x : Str}
    (hn : l.most = some n) (n2 : n ≤ sizeLine) (df : d.params.defaults = []) (hY : ∀ (w : World) (h : Heap), YP w h → (K w.params).In h)
    (F : ∀ (w : World) (mg : Str → Option Value) (fa : Addr) (h : Heap), (K w.params).In h → h.Ns mainGlobals mg → mg d.name = some (.ref fa) →
      ∃ fd : FuncData, (∀ (s : Shared) (u : Value), BindsTo s fd ⟨[u], []⟩ [(x, u)]) ∧ ∀ base : Heap, (K w.params).In base → base.Ns mainGlobals mg → FnC l.prog w (K w.params) mg base fa fd [x] (sp w))
    (hsp : ∀ (w : World) (H : Hp) (a : Addr) (ns : List Int), ns.length ≤ n → SqL (K w.params) H a (ns.map V.int) → sp w [.ref a] H (fun v _ => v = .bl true) fun _ _ _ => False) :
    PySem.W.WalkO q loose XP YP l.row.toRowW d [] (fun f vs => PySem.call f vs) := by
  refine Att.attach_call hn df fun w s₀ s mg mb fa o pm cd doc a vs ns G Y ho hd hcd hmg hobj hints hlen hg => ?_
  have kx := hY w _ Y
  obtain ⟨fd, hb, hF⟩ := F w mg fa _ kx G.T.g hmg
  exact run_law kx G.T.g G.T.b G.T.builtins G.T.nolimit hg hobj hints (Nat.le_trans hlen n2) hF hb fun H hS => hsp w H a ns hlen hS
end UP

set_option Elab.async false
set_option linter.all false
set_option maxRecDepth 100000
set_option maxHeartbeats 4000000
namespace UP
open PySem PySem.Spec PyProof.Rows L2
/-! ### lists or tuples -/
def Sq2 (H : Hp) (a : Addr) (xs : List V) : Prop := H a = some (.lst xs) ∨ H a = some (.tup xs)
theorem Sq2.same {H H' : Hp} {a : Addr} {xs : List V} (s : Same H H') (h : Sq2 H a xs) : Sq2 H' a xs := h.elim (fun z => .inl (s _ _ z)) (fun z => .inr (s _ _ z))
/-- a walk over the items xs, from the heap H on -/
structure Wk (J : It) (H : Hp) (xs : List V) : Prop where
  go : ∀ i H', Same H H' → i < xs.length → J.go i H'
  stop : ∀ H', Same H H' → J.stop xs.length H'
  yld : ∀ i x H' H'', Same H H' → J.yld i H' x H'' → H'' = H' ∧ xs[i]? = some x
theorem wk_list {K : PySem.W.Frag} {H : Hp} {a : Addr} {xs : List V} (h : H a = some (.lst xs)) : Wk (Itl K a) H xs :=
  ⟨fun i H' s hi => ⟨xs, xs[i], .of (s _ _ h), List.getElem?_eq_getElem hi⟩, fun H' s => ⟨xs, .of (s _ _ h), Nat.le_refl _⟩, fun i x H' H'' s y => ⟨y.1, y.2 xs (.of (s _ _ h))⟩⟩
theorem wk_tup {K : PySem.W.Frag} {H : Hp} {a : Addr} {xs : List V} (h : H a = some (.tup xs)) : Wk (Itt K a) H xs :=
  ⟨fun i H' s hi => ⟨xs, xs[i], .of (s _ _ h), List.getElem?_eq_getElem hi⟩, fun H' s => ⟨xs, .of (s _ _ h), Nat.le_refl _⟩, fun i x H' H'' s y => ⟨y.1, y.2 xs (.of (s _ _ h))⟩⟩
def iSeqV (i : Nat) : TI := fun σ H R => ∃ a xs, σ[i]? = some (some (.ref a)) ∧ Sq2 H a xs ∧ ∀ J, Wk J H xs → R J H
section
variable {X : Cx}
theorem pi_seqV (i : Nat) {x : Str} {pos : Pos} {tg : Expr} (hN : X.N[i]? = some x := by rfl) (hv : Vis X.env.scope x := by first | exact Or.inl rfl | exact Or.inr (Or.inl rfl) | exact Or.inr (Or.inr rfl)) (hd : (x == ("__debug__" : Str)) = false := by decide)
    (hc : (x == ("__classdict__" : Str)) = false := by decide) : PI X tg (.Name x pos) (iSeqV i) := by
  refine ⟨fun pins s σ H R I hw => ?_⟩
  obtain ⟨a, xs, e, h, k⟩ := hw
  rcases h with h | h
  · exact (pi_list (pe_var hN hv hd hc)).run pins s σ H R I ⟨_, e, a, rfl, ⟨xs, .of h⟩, k _ (wk_list h)⟩
  · exact (pi_tup (pe_var hN hv hd hc)).run pins s σ H R I ⟨_, e, a, rfl, ⟨xs, .of h⟩, k _ (wk_tup h)⟩
def gAny (n : Nat) (t : TGs) : TG := fun v σ H Q => ∃ a xs, v = .ref a ∧ Sq2 H a xs ∧ xs.length = n ∧ t xs σ H Q
theorem pg_any {es : List Expr} {k n : Nat} {t : TGs} {pos : Pos} (hc : X.calm = true) (h : PGs X es t) (hn : (assignEach es X.env).length = n := by rfl) (hst : (assignEach es X.env).findIdx? (fun z => z.1) = none := by rfl) : PG X (.Tuple es k pos) (gAny n t) := by
  refine ⟨fun pins s σ H v u Q I r hw => ?_⟩
  obtain ⟨a, xs, e, hx, hl, hw⟩ := hw
  rcases hx with z | z
  · exact (pg_unl hc h hn hst).run pins s σ H v u Q I r ⟨a, xs, e, .of z, hl, hw⟩
  · exact (pg_tup hc h hn hst).run pins s σ H v u Q I r ⟨a, xs, e, .of z, hl, hw⟩
/-- zip(x, x[1:]) -/
structure WkZ (J : It) (H : Hp) (xs : List V) : Prop where
  go : ∀ i H', Same H H' → i + 1 < xs.length → J.go i H'
  stop : ∀ H', Same H H' → J.stop (xs.length - 1) H'
  yld : ∀ i x H' H'', Same H H' → J.yld i H' x H'' → ∃ T x1 x2, x = .ref T ∧ H' T = none ∧ H'' = upd H' T (.tup [x1, x2]) ∧ xs[i]? = some x1 ∧ (i + 1 < xs.length → xs[i + 1]? = some x2)
def iZip1 (i : Nat) : TI := fun σ H R => ∃ a xs, σ[i]? = some (some (.ref a)) ∧ Sq2 H a xs ∧ ∀ J H', Same H H' → WkZ J H' xs → R J H'
theorem cutt_one (xs : List V) : cutV xs (some 1) none = xs.drop 1 := by
  have e : HT.sIx xs.length 0 (some 1) = min 1 xs.length := HT.sIx_nat xs.length 0 1
  unfold cutV
  rw [e, HT.sIx_none]
  cases xs with
  | nil => rfl
  | cons x r =>
    have e1 : min 1 (x :: r).length = 1 := by simp only [List.length_cons]; omega
    rw [e1]
    simp
theorem pi_zip1 {i : Nat} {tg it : Expr} {tl th : TO} (h : PI X tg it (RZ.iZipA X.K (tCons (tVar i) (tCons (tSl (fun x lo hi H Q => rSlL X.K x lo hi H Q ∨ rSlA X.K x lo hi H Q) (tVar i) tl th) tNil))))
    (h1 : ∀ (σ : L2.St) (H : Hp) (Q : Option Int → Hp → Prop), Q (some 1) H → tl σ H Q) (h2 : ∀ (σ : L2.St) (H : Hp) (Q : Option Int → Hp → Prop), Q none H → th σ H Q) : PI X tg it (iZip1 i) := by
  refine ⟨fun pins s σ H R I hw => h.run pins s σ H R I ?_⟩
  obtain ⟨a, xs, e, hx, k⟩ := hw
  refine ⟨_, e, _, e, h1 σ H _ (h2 σ H _ ?_)⟩
  have gn : ∀ j : Nat, (xs.drop 1)[j]? = xs[j + 1]? := fun j => by rw [List.getElem?_drop, Nat.add_comm 1 j]
  rcases hx with hx | hx
  · refine .inl ⟨a, xs, rfl, .of hx, fun c nc => ?_⟩
    have sc : Same H (upd H c (.lst (cutV xs (some 1) none))) := fun b o z => by rw [upd_ne (ne_of_none z nc)]; exact z
    have hc : (upd H c (.lst (cutV xs (some 1) none))) c = some (.lst (xs.drop 1)) := by rw [upd_same, cutt_one]
    refine ⟨a, c, xs, xs.drop 1, rfl, .inl ⟨.of (sc _ _ hx), .of hc, k _ _ sc ⟨fun j H' sj hj => ?_, fun H' sj => ?_, fun j x H' H'' sj y => ?_⟩⟩⟩
    · exact ⟨xs, xs.drop 1, xs[j], xs[j + 1], .of (sj _ _ (sc _ _ hx)), .of (sj _ _ hc), List.getElem?_eq_getElem (by omega), by rw [gn]; exact List.getElem?_eq_getElem hj⟩
    · exact ⟨xs, xs.drop 1, .of (sj _ _ (sc _ _ hx)), .of (sj _ _ hc), .inr (by rw [List.length_drop]; exact Nat.le_refl _)⟩
    · obtain ⟨T, x1, x2, e1, e2, e3, f1, f2⟩ := y
      exact ⟨T, x1, x2, e1, e2, e3, f1 xs (.of (sj _ _ (sc _ _ hx))), fun _ => by rw [← gn]; exact f2 _ (.of (sj _ _ hc))⟩
  · refine .inr ⟨a, xs, rfl, .of hx, fun z => ?_, fun z c nc => ?_⟩
    · have lz : xs.length = 0 := by
        have z1 := z.1
        rw [show HT.sIx xs.length 0 (some 1) = min 1 xs.length from HT.sIx_nat xs.length 0 1] at z1
        omega
      refine ⟨a, a, xs, xs, rfl, .inr ⟨.of hx, .of hx, k _ _ (Same.refl _) ⟨fun j H' sj hj => by omega, fun H' sj => ⟨xs, xs, .of (sj _ _ hx), .of (sj _ _ hx), .inl (by omega)⟩, fun j x H' H'' sj y => ?_⟩⟩⟩
      obtain ⟨T, x1, x2, e1, e2, e3, f1, f2⟩ := y
      exact ⟨T, x1, x2, e1, e2, e3, f1 xs (.of (sj _ _ hx)), fun hj => by omega⟩
    · have sc : Same H (upd H c (.tup (cutV xs (some 1) none))) := fun b o z => by rw [upd_ne (ne_of_none z nc)]; exact z
      have hc : (upd H c (.tup (cutV xs (some 1) none))) c = some (.tup (xs.drop 1)) := by rw [upd_same, cutt_one]
      refine ⟨a, c, xs, xs.drop 1, rfl, .inr ⟨.of (sc _ _ hx), .of hc, k _ _ sc ⟨fun j H' sj hj => ?_, fun H' sj => ?_, fun j x H' H'' sj y => ?_⟩⟩⟩
      · exact ⟨xs, xs.drop 1, xs[j], xs[j + 1], .of (sj _ _ (sc _ _ hx)), .of (sj _ _ hc), List.getElem?_eq_getElem (by omega), by rw [gn]; exact List.getElem?_eq_getElem hj⟩
      · exact ⟨xs, xs.drop 1, .of (sj _ _ (sc _ _ hx)), .of (sj _ _ hc), .inr (by rw [List.length_drop]; exact Nat.le_refl _)⟩
      · obtain ⟨T, x1, x2, e1, e2, e3, f1, f2⟩ := y
        exact ⟨T, x1, x2, e1, e2, e3, f1 xs (.of (sj _ _ (sc _ _ hx))), fun _ => by rw [← gn]; exact f2 _ (.of (sj _ _ hc))⟩
end
/-! ### runs and states, dressed -/
def RunG (H : Hp) (v : V) (r : Run) : Prop := ∃ t, v = .ref t ∧ Sq2 H t [.str r.1, .int r.2]
def RunsG (H : Hp) (v : V) (rs : List Run) : Prop := ∃ a xs, v = .ref a ∧ Sq2 H a xs ∧ Paired (RunG H) xs rs
def StG (H : Hp) (v : V) : Option Run → Prop
  | none => v = .non
  | some r => RunG H v r
theorem RunG.same {H H' : Hp} {v : V} {r : Run} (s : Same H H') (h : RunG H v r) : RunG H' v r := by
  obtain ⟨t, e, h⟩ := h
  exact ⟨t, e, h.same s⟩
theorem RunsG.same {H H' : Hp} {v : V} {rs : List Run} (s : Same H H') (h : RunsG H v rs) : RunsG H' v rs := by
  obtain ⟨a, xs, e, hx, p⟩ := h
  exact ⟨a, xs, e, hx.same s, Paired.imp (fun _ _ => RunG.same s) p⟩
theorem StG.same {H H' : Hp} {v : V} {st : Option Run} (s : Same H H') (h : StG H v st) : StG H' v st := by
  cases st with
  | none => exact h
  | some r => exact RunG.same s h
theorem RunV.dress {H : Hp} {v : V} {r : Run} (h : RunV H v r) : RunG H v r := by
  obtain ⟨t, e, h⟩ := h
  exact ⟨t, e, .inr h⟩
theorem Runs.dress {H : Hp} {a : Addr} {rs : List Run} (h : Runs H a rs) : RunsG H (.ref a) rs := by
  obtain ⟨xs, hx, p⟩ := h
  exact ⟨a, xs, rfl, .inl hx, Paired.imp (fun _ _ => RunV.dress) p⟩
theorem StV.dress {H : Hp} {v : V} {st : Option Run} (h : StV H v st) : StG H v st := by
  cases st with
  | none => exact h
  | some r => exact RunV.dress h
theorem Sq2.but {H H' : Hp} {sp a : Addr} {xs : List V} (z : Spr H sp) (s : But sp H H') (h : Sq2 H a xs) (n : ∀ d e f, xs ≠ [.int d, .int e, .int f]) : Sq2 H' a xs := by
  obtain ⟨d, e, f, hs, _⟩ := z
  rcases h with h | h
  · exact .inl (s _ _ (ne_of h hs fun q => n d e f (HO.lst.inj q)) h)
  · exact .inr (s _ _ (ne_of h hs fun q => by cases q) h)
theorem RunG.but {H H' : Hp} {sp : Addr} {v : V} {r : Run} (z : Spr H sp) (s : But sp H H') (h : RunG H v r) : RunG H' v r := by
  obtain ⟨t, e, h⟩ := h
  exact ⟨t, e, h.but z s fun _ _ _ q => by cases q⟩
theorem RunsG.but {H H' : Hp} {sp : Addr} {v : V} {rs : List Run} (z : Spr H sp) (s : But sp H H') (h : RunsG H v rs) : RunsG H' v rs := by
  obtain ⟨a, xs, e, hx, p⟩ := h
  refine ⟨a, xs, e, hx.but z s fun d _ _ q => ?_, Paired.imp (fun _ _ => RunG.but z s) p⟩
  subst q
  cases p with
  | cons h _ =>
    obtain ⟨_, e, _⟩ := h
    cases e
theorem StG.but {H H' : Hp} {sp : Addr} {v : V} {st : Option Run} (z : Spr H sp) (s : But sp H H') (h : StG H v st) : StG H' v st := by
  cases st with
  | none => exact h
  | some r => exact RunG.but z s h
end UP

set_option Elab.async false
set_option linter.all false
set_option maxRecDepth 100000
set_option maxHeartbeats 4000000
namespace UP
open PySem PySem.Spec PyProof.Rows L2
def topS (i : Nat) : Stmt := PySem.Challenge.pw_unlikepairs_k62_whole_effects_and_rounds.main.body.getD i (.Pass ⟨0, 0, 0, 0⟩)
structure Tx (mg : Str → Option Value) : Prop where
  n_isinstance : mg "isinstance" = none
  n_int : mg "int" = none
  n_bool : mg "bool" = none
  n_str : mg "str" = none
  n_list : mg "list" = none
  n_tuple : mg "tuple" = none
  n_len : mg "len" = none
  n_all : mg "all" = none
  n_zip : mg "zip" = none
  n_sum : mg "sum" = none
  n_min : mg "min" = none
  n_max : mg "max" = none
  n_abs : mg "abs" = none
  n_range : mg "range" = none
  n_repr : mg "repr" = none
  n_enumerate : mg "enumerate" = none
  n_any : mg "any" = none
  n_dict : mg "dict" = none
  n_sorted : mg "sorted" = none
  n_set : mg "set" = none
  n_reversed : mg "reversed" = none
  s_LETTERS : ∃ t, mg "LETTERS" = some (.str "abcdefghijklmnopqrstuvwxyz" t)
  c_MAX_LETTERS : ∃ t, mg "MAX_LETTERS" = some (.int 8 t)
  c_MAX_RUNS : ∃ t, mg "MAX_RUNS" = some (.int 400 t)
  c_MAX_ITEMS : ∃ t, mg "MAX_ITEMS" = some (.int 400 t)
  c_MAX_KINDS : ∃ t, mg "MAX_KINDS" = some (.int 12 t)
  c_MAX_COUNT : ∃ t, mg "MAX_COUNT" = some (.int 1000000000000000000000000000000 t)
  c_MAX_ROUNDS : ∃ t, mg "MAX_ROUNDS" = some (.int 1000000000000000000000000000000 t)
  c_MAX_EFFECTS : ∃ t, mg "MAX_EFFECTS" = some (.int 401 t)
section
variable {P : Program} {w : World} {K : PySem.W.Frag} {mg : Str → Option Value} {base : Heap}
/-! is_whole: slots 0:value -/
abbrev s_is_whole : Stmt := topS 16
theorem sc_is_whole : FnScope ["value"] ["value"] (defScope s_is_whole) := ⟨rfl, rfl, rfl, by decide +kernel, rfl, by decide +kernel, by decide +kernel⟩
def sp_is_whole : Sp := fun vs H Q _ => ∃ n : Int, vs = [.int n] ∧ Q (.bl true) H
theorem ok_is_whole (D : Df K mg "is_whole" s_is_whole) (T : Tx mg) : Has P w K mg base 1 "is_whole" ["value"] sp_is_whole := by
  refine has_of D sc_is_whole (fun _ _ _ _ _ _ us hl => match us, hl with | [_], _ => rfl) (fun vs H Q E h => ?_) (fun f cdv A outer s H vs Q E hr h => ?_)
  · obtain ⟨n, rfl, _⟩ := h
    rfl
  · obtain ⟨n, rfl, q⟩ := h
    refine ⟨_, (pss_one (ps_ret (pe_and (pe_callB call_isi (by rfl) T.n_isinstance (by decide +kernel) (pa_cons (pv 0) (pa_cons (pe_bltn (v := .ty "int") (by rfl) T.n_int (by decide +kernel) rfl) pa_nil))) (pe_one (pe_not (pe_callB call_isi (by rfl) T.n_isinstance (by decide +kernel) (pa_cons (pv 0) (pa_cons (pe_bltn (v := .ty "bool") (by rfl) T.n_bool (by decide +kernel) rfl) pa_nil)))))))), ?_⟩
    exact ⟨_, rfl, _, _, _, _, true, rfl, .ty "int", .base (.int n), kit_ty (by decide +kernel), true, rfl, iteT ⟨_, rfl, _, _, _, _, false, rfl, .ty "bool", .base (.int n), kit_ty (by decide +kernel), false, rfl, q⟩⟩
/-! is_within: slots 0:value 1:low 2:high -/
abbrev s_is_within : Stmt := topS 17
theorem sc_is_within : FnScope ["value", "low", "high"] ["value", "low", "high"] (defScope s_is_within) := ⟨rfl, rfl, rfl, by decide +kernel, rfl, by decide +kernel, by decide +kernel⟩
def sp_is_within : Sp := fun vs H Q _ => ∃ n lo hi : Int, vs = [.int n, .int lo, .int hi] ∧ Q (.bl (decide (lo ≤ n ∧ n ≤ hi))) H
theorem ok_is_within (D : Df K mg "is_within" s_is_within) (G_is_whole : Has P w K mg base 1 "is_whole" ["value"] sp_is_whole) : Has P w K mg base 2 "is_within" ["value", "low", "high"] sp_is_within := by
  refine has_of D sc_is_within (fun _ _ _ _ _ _ us hl => match us, hl with | [_, _, _], _ => rfl) (fun vs H Q E h => ?_) (fun f cdv A outer s H vs Q E hr h => ?_)
  · obtain ⟨n, lo, hi, rfl, _⟩ := h
    rfl
  · obtain ⟨n, lo, hi, rfl, q⟩ := h
    refine ⟨_, (pss_one (ps_ret (pe_and (pe_callH G_is_whole (hr.mono (by omega)) (by rfl) (pa_cons (pv 0) pa_nil)) (pe_one (pe_chain op_le op_le (pv 1) (pv 0) (pv 2)))))), ?_⟩
    refine ⟨_, rfl, n, rfl, true, rfl, iteT ⟨_, rfl, _, rfl, _, _, rfl, rfl, _, rfl, ite2 (fun e => ?_) (fun e => ?_)⟩⟩
    · have e := of_decide_eq_true e
      refine ⟨_, rfl, _, _, rfl, rfl, ?_⟩
      show Q (.bl (decide (n ≤ hi))) H
      rw [show decide (n ≤ hi) = decide (lo ≤ n ∧ n ≤ hi) by simp [e]]
      exact q
    · have e : ¬ lo ≤ n := fun z => e (decide_eq_true z)
      show Q (.bl false) H
      rw [show false = decide (lo ≤ n ∧ n ≤ hi) by simp [e]]
      exact q
theorem kit_lst {K : PySem.W.Frag} : PySem.W.kitAny K (.type "list") [.type "list", .type "tuple"] = some true := kitAny_cons (b := true) (kit_ty (by decide +kernel)) (fun z => nomatch z) (fun _ => rfl)
theorem kit_tup {K : PySem.W.Frag} : PySem.W.kitAny K (.type "tuple") [.type "list", .type "tuple"] = some true := kitAny_cons (b := false) (kit_ty (by decide +kernel)) (fun _ => kitAny_cons (b := true) (kit_ty (by decide +kernel)) (fun z => nomatch z) (fun _ => rfl)) (fun z => nomatch z)
/-! is_listed: slots 0:value 1:most -/
abbrev s_is_listed : Stmt := topS 18
theorem sc_is_listed : FnScope ["value", "most"] ["value", "most"] (defScope s_is_listed) := ⟨rfl, rfl, rfl, by decide +kernel, rfl, by decide +kernel, by decide +kernel⟩
def sp_is_listed : Sp := fun vs H Q _ => ∃ (a : Addr) (xs : List V) (m : Int), vs = [.ref a, .int m] ∧ Sq2 H a xs ∧ ∀ H', Same H H' → Q (.bl (decide ((xs.length : Int) ≤ m))) H'
theorem ok_is_listed (D : Df K mg "is_listed" s_is_listed) (T : Tx mg) : Has P w K mg base 1 "is_listed" ["value", "most"] sp_is_listed := by
  refine has_of D sc_is_listed (fun _ _ _ _ _ _ us hl => match us, hl with | [_, _], _ => rfl) (fun vs H Q E h => ?_) (fun f cdv A outer s H vs Q E hr h => ?_)
  · obtain ⟨a, xs, m, rfl, _⟩ := h
    rfl
  · obtain ⟨a, xs, m, rfl, hx, q⟩ := h
    refine ⟨_, (pss_one (ps_ret (pe_and (pe_callB call_isiT (by rfl) T.n_isinstance (by decide +kernel) (pa_cons (pv 0) (pa_cons (pe_tup (pa_cons (pe_bltn (v := .ty "list") (by rfl) T.n_list (by decide +kernel) rfl) (pa_cons (pe_bltn (v := .ty "tuple") (by rfl) T.n_tuple (by decide +kernel) rfl) pa_nil))) pa_nil))) (pe_one (pe_cmpR op_le (pe_callB call_len_seq (by rfl) T.n_len (by decide +kernel) (pa_cons (pv 0) pa_nil)) (pv 1) (nomark _)))))), ?_⟩
    refine ⟨_, rfl, (by show 2 ≤ sizeLine; decide), fun t nt => ?_⟩
    rcases hx with hx | hx
    · refine ⟨_, t, _, _, _, true, rfl, upd_same, .cons (.ty "list") (.cons (.ty "tuple") .nil), .base (.lst (same_upd nt _ _ hx)), kit_lst, true, rfl, iteT ?_⟩
      exact ⟨_, rfl, _, _, rfl, .inl (.of (same_upd nt _ _ hx)), _, rfl, _, _, rfl, rfl, q _ (same_upd nt)⟩
    · refine ⟨_, t, _, _, _, true, rfl, upd_same, .cons (.ty "list") (.cons (.ty "tuple") .nil), .base (.tup (same_upd nt _ _ hx)), kit_tup, true, rfl, iteT ?_⟩
      exact ⟨_, rfl, _, _, rfl, .inr (.of (same_upd nt _ _ hx)), _, rfl, _, _, rfl, rfl, q _ (same_upd nt)⟩
/-! is_couple: slots 0:value -/
abbrev s_is_couple : Stmt := topS 19
theorem sc_is_couple : FnScope ["value"] ["value"] (defScope s_is_couple) := ⟨rfl, rfl, rfl, by decide +kernel, rfl, by decide +kernel, by decide +kernel⟩
def sp_is_couple : Sp := fun vs H Q _ => ∃ (a : Addr) (xs : List V), vs = [.ref a] ∧ Sq2 H a xs ∧ xs.length = 2 ∧ ∀ H', Same H H' → Q (.bl true) H'
theorem ok_is_couple (D : Df K mg "is_couple" s_is_couple) (T : Tx mg) : Has P w K mg base 1 "is_couple" ["value"] sp_is_couple := by
  refine has_of D sc_is_couple (fun _ _ _ _ _ _ us hl => match us, hl with | [_], _ => rfl) (fun vs H Q E h => ?_) (fun f cdv A outer s H vs Q E hr h => ?_)
  · obtain ⟨a, xs, rfl, _⟩ := h
    rfl
  · obtain ⟨a, xs, rfl, hx, hl, q⟩ := h
    refine ⟨_, (pss_one (ps_ret (pe_and (pe_callB call_isiT (by rfl) T.n_isinstance (by decide +kernel) (pa_cons (pv 0) (pa_cons (pe_tup (pa_cons (pe_bltn (v := .ty "list") (by rfl) T.n_list (by decide +kernel) rfl) (pa_cons (pe_bltn (v := .ty "tuple") (by rfl) T.n_tuple (by decide +kernel) rfl) pa_nil))) pa_nil))) (pe_one (pe_cmpR op_eq (pe_callB call_len_seq (by rfl) T.n_len (by decide +kernel) (pa_cons (pv 0) pa_nil)) pe_int (nomark _)))))), ?_⟩
    refine ⟨_, rfl, (by show 2 ≤ sizeLine; decide), fun t nt => ?_⟩
    rcases hx with hx | hx
    · refine ⟨_, t, _, _, _, true, rfl, upd_same, .cons (.ty "list") (.cons (.ty "tuple") .nil), .base (.lst (same_upd nt _ _ hx)), kit_lst, true, rfl, iteT ⟨_, rfl, _, _, rfl, .inl (.of (same_upd nt _ _ hx)), rfl, ?_⟩⟩
      rw [hl]
      exact q _ (same_upd nt)
    · refine ⟨_, t, _, _, _, true, rfl, upd_same, .cons (.ty "list") (.cons (.ty "tuple") .nil), .base (.tup (same_upd nt _ _ hx)), kit_tup, true, rfl, iteT ⟨_, rfl, _, _, rfl, .inr (.of (same_upd nt _ _ hx)), rfl, ?_⟩⟩
      rw [hl]
      exact q _ (same_upd nt)
end
end UP

set_option Elab.async false
set_option linter.all false
set_option maxRecDepth 100000
set_option maxHeartbeats 4000000
namespace UP
open PySem PySem.Spec PyProof.Rows L2
theorem iteP {b : Bool} {A B : Prop} (h : b = true) (x : A) : if b = true then A else B := by
  rw [if_pos h]
  exact x
theorem iteN {b : Bool} {A B : Prop} (h : b = false) (x : B) : if b = true then A else B := by
  rw [if_neg (by rw [h]; decide)]
  exact x
theorem yesT {σ : L2.St} {H : Hp} {A B : Hp → Prop} (h : A H) : tYes σ H (fun b H3 => if b = true then A H3 else B H3) := by
  show (if true = true then A H else B H)
  exact iteT h
theorem lc_gen {J : It} {n : Nat} {g : TG} {tt : TT} {te : TE} {vs : List Nat} {σ : L2.St} {H1 : Hp} {D : Addr} {Qd : Hp → Prop} (Pv : Nat → Hp → Prop) (h0 : Pv 0 (upd H1 D (.lst [])))
    (hg : ∀ i H, i < n → Pv i H → J.go i H) (hst : ∀ H, Pv n H → J.stop n H)
    (hs : ∀ i x H H', i < n → Pv i H → J.yld i H x H' → g x (wipe σ vs) H' fun σ2 H2 => wipe σ2 vs = wipe σ vs ∧ tt σ2 H2 fun b H3 =>
      if b = true then te σ2 H3 fun y H4 => ∃ acc, H4 D = some (.lst acc) ∧ acc.length < sizeLine ∧ Pv (i + 1) (upd H4 D (.lst (acc ++ [y]))) else Pv (i + 1) H3) (hd : ∀ H, Pv n H → Qd H) :
    ∃ W : Nat → Nat → Hp → Prop, (∃ m, W 0 m (upd H1 D (.lst []))) ∧ ∀ i m H, W i m H →
      (J.stop i H ∧ Qd H) ∨ (J.go i H ∧ ∃ Nx : Hp → Prop, (∀ H', Nx H' → ∃ m', m' < m ∧ W (i + 1) m' H') ∧ ∀ x H', J.yld i H x H' → g x (wipe σ vs) H' fun σ2 H2 => wipe σ2 vs = wipe σ vs ∧ tt σ2 H2 fun b H3 =>
        if b = true then te σ2 H3 fun y H4 => ∃ acc, H4 D = some (.lst acc) ∧ acc.length < sizeLine ∧ Nx (upd H4 D (.lst (acc ++ [y]))) else Nx H3) := by
  refine ⟨fun i m H => m = n - i ∧ i ≤ n ∧ Pv i H, ⟨n, by simp, Nat.zero_le _, h0⟩, ?_⟩
  rintro i m H ⟨rfl, hi, p⟩
  by_cases hlt : i < n
  · exact .inr ⟨hg i H hlt p, Pv (i + 1), fun H' p' => ⟨n - (i + 1), by omega, rfl, hlt, p'⟩, fun x H' y => hs i x H H' hlt p y⟩
  · have e : i = n := by omega
    subst e
    exact .inl ⟨hst H p, hd H p⟩
section
variable {X : Cx} {K : PySem.W.Frag}
theorem ix_tupK (h : X.K = K) : IxR X (rIxT K) := h ▸ ix_tup
theorem ix_listK (h : X.K = K) : IxR X (rIxL K) := h ▸ ix_list
theorem pg_tupK {es : List Expr} {k : Nat} {t : TGs} {n : Nat} {pos : Pos} (h : X.K = K) (hc : X.calm = true) (hp : PGs X es t)
    (hn : (assignEach es X.env).length = n := by rfl) (hst : (assignEach es X.env).findIdx? (fun z => z.1) = none := by rfl) : PG X (.Tuple es k pos) (gTup K n t) := by
  subst h
  exact pg_tup hc hp hn hst
theorem call_len_seqK (h : X.K = K) : CallR X (.builtin "len") (fun xs H Q => ∃ p ys, xs = [.ref p] ∧ (SqL K H p ys ∨ SqT K H p ys) ∧ Q (.int ys.length) H) := by
  subst h
  exact call_len_seq
end
theorem ix_seqK {X : Cx} {K : PySem.W.Frag} (h : X.K = K) : IxR X (rIx K) := h ▸ ix_seq
/-! ### lists that grow -/
theorem same_grow {H H4 : Hp} {D : Addr} {o : HO} (n : H D = none) (s : Same H H4) : Same H (upd H4 D o) := fun b x e => by
  rw [upd_ne (ne_of_none e n)]
  exact s b x e
theorem RunV.grow {H : Hp} {D : Addr} {acc acc' : List V} {v : V} {r : Run} (hD : H D = some (.lst acc)) (h : RunV H v r) : RunV (upd H D (.lst acc')) v r := by
  obtain ⟨t, e, h⟩ := h
  refine ⟨t, e, ?_⟩
  rw [upd_ne (ne_of h hD (by intro q; cases q))]
  exact h
theorem prs_grow {H : Hp} {D : Addr} {acc acc' : List V} {xs : List V} {rs : List Run} (hD : H D = some (.lst acc)) (h : Paired (RunV H) xs rs) : Paired (RunV (upd H D (.lst acc'))) xs rs := Paired.imp (fun _ _ => RunV.grow hD) h
theorem prs_same {H H' : Hp} {xs : List V} {rs : List Run} (s : Same H H') (h : Paired (RunV H) xs rs) : Paired (RunV H') xs rs := Paired.imp (fun _ _ => RunV.same s) h
theorem take_snoc {α : Type} {l : List α} {i : Nat} {x : α} (h : l[i]? = some x) : l.take (i + 1) = l.take i ++ [x] := by
  rw [List.take_add_one, h]
  rfl
theorem lc_wk {J : It} {H0 H1 : Hp} {xs : List V} {g : TG} {tt : TT} {te : TE} {vs : List Nat} {σ : L2.St} {D : Addr} {Qd : Hp → Prop} (wk : Wk J H0 xs) (Pv : Nat → Hp → Prop) (hsm : ∀ i H, Pv i H → Same H0 H) (h0 : Pv 0 (upd H1 D (.lst [])))
    (hs : ∀ i x H, xs[i]? = some x → Pv i H → g x (wipe σ vs) H fun σ2 H2 => wipe σ2 vs = wipe σ vs ∧ tt σ2 H2 fun b H3 =>
      if b = true then te σ2 H3 fun y H4 => ∃ acc, H4 D = some (.lst acc) ∧ acc.length < sizeLine ∧ Pv (i + 1) (upd H4 D (.lst (acc ++ [y]))) else Pv (i + 1) H3) (hd : ∀ H, Pv xs.length H → Qd H) :
    ∃ W : Nat → Nat → Hp → Prop, (∃ m, W 0 m (upd H1 D (.lst []))) ∧ ∀ i m H, W i m H →
      (J.stop i H ∧ Qd H) ∨ (J.go i H ∧ ∃ Nx : Hp → Prop, (∀ H', Nx H' → ∃ m', m' < m ∧ W (i + 1) m' H') ∧ ∀ x H', J.yld i H x H' → g x (wipe σ vs) H' fun σ2 H2 => wipe σ2 vs = wipe σ vs ∧ tt σ2 H2 fun b H3 =>
        if b = true then te σ2 H3 fun y H4 => ∃ acc, H4 D = some (.lst acc) ∧ acc.length < sizeLine ∧ Nx (upd H4 D (.lst (acc ++ [y]))) else Nx H3) := by
  refine lc_gen Pv h0 (fun i H hi p => wk.go i H (hsm i H p) hi) (fun H p => wk.stop H (hsm _ H p)) (fun i x H H' hi p y => ?_) hd
  obtain ⟨e, ex⟩ := wk.yld i x H H' (hsm i H p) y
  subst e
  exact hs i x _ ex p
theorem for_wk {J : It} {H0 H : Hp} {xs : List V} {g : TG} {tb : TS} {D : Ends} {σ : L2.St} (wk : Wk J H0 xs) (Pv : Nat → L2.St → Hp → Prop) (hsm : ∀ i σ H, Pv i σ H → Same H0 H) (h0 : Pv 0 σ H)
    (hs : ∀ i x σ H, xs[i]? = some x → Pv i σ H → g x σ H fun σ2 H2 => tb { D with nx := Pv (i + 1), ct := Pv (i + 1), bk := D.nx } σ2 H2) (hd : ∀ σ H, Pv xs.length σ H → D.nx σ H) :
    ∃ W : Nat → Nat → L2.St → Hp → Prop, (∃ m, W 0 m σ H) ∧ ∀ i m σ H, W i m σ H →
      (J.stop i H ∧ D.nx σ H) ∨ (J.go i H ∧ ∃ N : L2.St → Hp → Prop, (∀ σ' H', N σ' H' → ∃ m', m' < m ∧ W (i + 1) m' σ' H') ∧ ∀ x H', J.yld i H x H' → g x σ H' fun σ2 H2 => tb { D with nx := N, ct := N, bk := D.nx } σ2 H2) := by
  refine ⟨fun i m σ H => m = xs.length - i ∧ i ≤ xs.length ∧ Pv i σ H, ⟨xs.length, by omega, Nat.zero_le _, h0⟩, ?_⟩
  rintro i m σ H ⟨rfl, hi, p⟩
  by_cases hlt : i < xs.length
  · refine Or.inr ⟨wk.go i H (hsm i σ H p) hlt, Pv (i + 1), fun σ' H' p' => ⟨xs.length - (i + 1), by omega, rfl, hlt, p'⟩, fun x H' y => ?_⟩
    obtain ⟨e, ex⟩ := wk.yld i x H H' (hsm i σ H p) y
    subst e
    exact hs i x σ _ ex p
  · have e : i = xs.length := by omega
    subst e
    exact Or.inl ⟨wk.stop H (hsm _ σ H p), hd σ H p⟩
section
variable {P : Program} {w : World} {K : PySem.W.Frag} {mg : Str → Option Value} {base : Heap}
theorem lex1 {c d : Nat} : (!decide (([c] : List Nat) < [d])) = decide (d ≤ c) := by
  have e : (([c] : List Nat) < [d]) ↔ c < d := by
    rw [List.cons_lt_cons_iff]
    simp
  by_cases h : c < d
  · rw [decide_eq_true (e.mpr h), decide_eq_false (by omega)]
    rfl
  · rw [decide_eq_false (fun z => h (e.mp z)), decide_eq_true (by omega)]
    rfl
/-! is_kind: slots 0:value 1:letter -/
abbrev s_is_kind : Stmt := topS 20
theorem sc_is_kind : FnScope ["value", "letter"] ["value"] (defScope s_is_kind) := ⟨rfl, rfl, rfl, by decide +kernel, rfl, by decide +kernel, by decide +kernel⟩
def sp_is_kind : Sp := fun vs H Q _ => ∃ z : Str, vs = [.str z] ∧ KindOk z ∧ ∀ H', Same H H' → Q (.bl true) H'
theorem ok_is_kind (D : Df K mg "is_kind" s_is_kind) (T : Tx mg) : Has P w K mg base 1 "is_kind" ["value"] sp_is_kind := by
  refine has_of D sc_is_kind (fun _ _ _ _ _ _ us hl => match us, hl with | [_], _ => rfl) (fun vs H Q E h => ?_) (fun f cdv A outer s H vs Q E hr h => ?_)
  · obtain ⟨n, rfl, _⟩ := h
    rfl
  · obtain ⟨z, rfl, ⟨k1, k2, k3⟩, q⟩ := h
    refine ⟨_, (pss_cons (ps_if (PW.pt (pw_or (pt_not (pt_val (pe_callB call_isi (by rfl) T.n_isinstance (by decide +kernel) (pa_cons (pv 0) (pa_cons (pe_bltn (v := .ty "str") (by rfl) T.n_str (by decide +kernel) rfl) pa_nil))))) (pw_or1 (pt_not (pt_chain op_le op_le pe_int (pe_callB call_len_str (by rfl) T.n_len (by decide +kernel) (pa_cons (pv 0) pa_nil)) (pe_glI T.c_MAX_LETTERS (by rfl))))))) (pss_one (ps_ret pe_bl)) pss_nil)
    (pss_one (ps_ret (pe_callB (cr_all rfl) (by rfl) T.n_all (by decide +kernel) (pa_cons (pe_lc (own := [("letter", 1)]) rfl sc_is_kind.nd (pi_str (pv 0)) (blkOk_by (N := ["value", "letter"]) (sc := defScope s_is_kind) (by decide +kernel)) (fun _ _ _ _ _ => (pg_name (i := 1) sc_is_kind.nd rfl (by first | exact Or.inl rfl | exact Or.inr rfl))) (fun _ _ _ _ _ => pts_nil) (fun _ _ _ _ _ => (pe_chain op_le_str op_le_str pe_str (pv 1) pe_str))) pa_nil))))), ?_⟩
    refine ⟨_, rfl, _, _, _, _, true, rfl, .ty "str", .base (.str z), kit_ty (by decide +kernel), true, rfl, iteF ?_⟩
    refine ⟨_, rfl, z, rfl, smallE (by omega), _, _, rfl, rfl, _, rfl, iteP (decide_eq_true (by omega)) ⟨_, _, rfl, rfl, _, rfl, iteN ?_ ?_⟩⟩
    · show (!decide ((z.length : Int) ≤ 8)) = false
      rw [decide_eq_true (by omega)]
      rfl
    refine ⟨_, rfl, z, rfl, fun L nL => lc_gen (n := z.cps.size) (fun i H' => Same H H' ∧ H' L = some (.lst ((List.replicate i true).map V.bl))) ⟨same_upd nL, upd_same⟩ (fun i H' hi _ => hi) (fun H' _ => Nat.le_refl _) (fun i x H1 H2 hi p y => ?_) (fun H' p => ?_)⟩
    · obtain ⟨rfl, c, ec, rfl⟩ := y
      obtain ⟨sm, hL⟩ := p
      have hc : 97 ≤ c ∧ c ≤ 122 := k3 c (by
        have := Array.mem_of_getElem? ec
        simpa using this)
      have ea : ("a" : Str).cps.toList = [97] := by decide +kernel
      have ez : ("z" : Str).cps.toList = [122] := by decide +kernel
      refine ⟨rfl, yesT ⟨_, rfl, _, _, rfl, rfl, _, rfl, iteP ?_ ⟨_, _, rfl, rfl, _, hL, ?_, ?_, ?_⟩⟩⟩
      · show (!decide (([c] : List Nat) < ("a" : Str).cps.toList)) = true
        rw [ea, lex1]
        exact decide_eq_true hc.1
      · simp only [List.length_map, List.length_replicate]
        exact small (by have : z.cps.size = z.length := rfl; omega)
      · intro b o e
        have nb : b ≠ L := ne_of_none e nL
        rw [upd_ne nb]
        exact sm b o e
      · rw [upd_same]
        have e1 : (!decide ((("z" : Str).cps.toList) < ([c] : List Nat))) = true := by
          rw [ez, lex1]
          exact decide_eq_true hc.2
        show some (HO.lst ((List.replicate i true).map V.bl ++ [V.bl (!decide ((("z" : Str).cps.toList) < ([c] : List Nat)))])) = _
        rw [e1, List.replicate_succ', List.map_append]
        rfl
    · refine ⟨L, _, rfl, .of p.2, ?_⟩
      have e : ((List.replicate z.cps.size true).all id) = true := by simp
      rw [e]
      exact q H' p.1
def StOk (st : Option Run) : Prop := ∀ r, st = some r → KindOk r.1 ∧ 1 ≤ r.2
theorem at0 {α : Type} {x y : α} : atI [x, y] 0 = some x := rfl
theorem at1 {α : Type} {x y : α} : atI [x, y] 1 = some y := rfl
theorem ix0 {K : PySem.W.Frag} {H : Hp} {t : Addr} {x y : V} {Q : VK} (h : Sq2 H t [x, y]) (q : Q x H) : rIx K (.ref t) (.int 0) H Q := h.elim (fun z => .inl ⟨t, _, 0, _, rfl, rfl, .of z, at0, q⟩) (fun z => .inr (.inl ⟨t, _, 0, _, rfl, rfl, .of z, at0, q⟩))
theorem ix1 {K : PySem.W.Frag} {H : Hp} {t : Addr} {x y : V} {Q : VK} (h : Sq2 H t [x, y]) (q : Q y H) : rIx K (.ref t) (.int 1) H Q := h.elim (fun z => .inl ⟨t, _, 1, _, rfl, rfl, .of z, at1, q⟩) (fun z => .inr (.inl ⟨t, _, 1, _, rfl, rfl, .of z, at1, q⟩))
theorem all_rep (n : Nat) : ((List.replicate n true).all id) = true := by simp
/-! is_run: slots 0:value -/
abbrev s_is_run : Stmt := topS 22
theorem sc_is_run : FnScope ["value"] ["value"] (defScope s_is_run) := ⟨rfl, rfl, rfl, by decide +kernel, rfl, by decide +kernel, by decide +kernel⟩
def sp_is_run : Sp := fun vs H Q _ => ∃ (v : V) (r : Run), vs = [v] ∧ RunG H v r ∧ RunOk r ∧ ∀ H', Same H H' → Q (.bl true) H'
theorem ok_is_run (D : Df K mg "is_run" s_is_run) (T : Tx mg) (G_is_couple : Has P w K mg base 1 "is_couple" ["value"] sp_is_couple) (G_is_kind : Has P w K mg base 1 "is_kind" ["value"] sp_is_kind) (G_is_within : Has P w K mg base 2 "is_within" ["value", "low", "high"] sp_is_within) :
    Has P w K mg base 3 "is_run" ["value"] sp_is_run := by
  refine has_of D sc_is_run (fun _ _ _ _ _ _ us hl => match us, hl with | [_], _ => rfl) (fun vs H Q E h => ?_) (fun f cdv A outer s H vs Q E hr h => ?_)
  · obtain ⟨v, r, rfl, _⟩ := h
    rfl
  · obtain ⟨v, r, rfl, ⟨t, rfl, ht⟩, ⟨k, c1, c2⟩, q⟩ := h
    refine ⟨_, (pss_one (ps_ret (pe_and (pe_callH G_is_couple (hr.mono (by omega)) (by rfl) (pa_cons (pv 0) pa_nil)) (pe_and (pe_callH G_is_kind (hr.mono (by omega)) (by rfl) (pa_cons (pe_ix ix_seq (pv 0) pe_int (fun _ _ => rfl)) pa_nil)) (pe_one (pe_callH G_is_within (hr.mono (by omega)) (by rfl) (pa_cons (pe_ix ix_seq (pv 0) pe_int (fun _ _ => rfl)) (pa_cons pe_int (pa_cons (pe_glI T.c_MAX_COUNT (by rfl)) pa_nil))))))))), ?_⟩
    refine ⟨_, rfl, t, _, rfl, ht, rfl, fun H1 s1 => ⟨true, rfl, iteT ?_⟩⟩
    refine ⟨_, rfl, ix0 (ht.same s1) ⟨r.1, rfl, k, fun H2 s2 => ⟨true, rfl, iteT ?_⟩⟩⟩
    refine ⟨_, rfl, ix1 ((ht.same s1).same s2) ⟨r.2, 1, _, rfl, ?_⟩⟩
    rw [decide_eq_true ⟨c1, c2⟩]
    exact q _ (s1.trans s2)
/-! is_state: slots 0:value -/
abbrev s_is_state : Stmt := topS 24
theorem sc_is_state : FnScope ["value"] ["value"] (defScope s_is_state) := ⟨rfl, rfl, rfl, by decide +kernel, rfl, by decide +kernel, by decide +kernel⟩
def sp_is_state : Sp := fun vs H Q _ => ∃ (v : V) (st : Option Run), vs = [v] ∧ StG H v st ∧ StOk st ∧ ∀ H', Same H H' → Q (.bl true) H'
theorem ok_is_state (D : Df K mg "is_state" s_is_state) (T : Tx mg) (G_is_couple : Has P w K mg base 1 "is_couple" ["value"] sp_is_couple) (G_is_kind : Has P w K mg base 1 "is_kind" ["value"] sp_is_kind) (G_is_whole : Has P w K mg base 1 "is_whole" ["value"] sp_is_whole) :
    Has P w K mg base 2 "is_state" ["value"] sp_is_state := by
  refine has_of D sc_is_state (fun _ _ _ _ _ _ us hl => match us, hl with | [_], _ => rfl) (fun vs H Q E h => ?_) (fun f cdv A outer s H vs Q E hr h => ?_)
  · obtain ⟨v, r, rfl, _⟩ := h
    rfl
  · obtain ⟨v, st, rfl, hv, ok, q⟩ := h
    refine ⟨_, (pss_cons (ps_if (pt_cmpR op_isN (pv 0) pe_non (nomark _)) (pss_one (ps_ret pe_bl)) pss_nil)
    (pss_one (ps_ret (pe_and (pe_callH G_is_couple (hr.mono (by omega)) (by rfl) (pa_cons (pv 0) pa_nil)) (pe_and (pe_callH G_is_kind (hr.mono (by omega)) (by rfl) (pa_cons (pe_ix ix_seq (pv 0) pe_int (fun _ _ => rfl)) pa_nil)) (pe_and (pe_callH G_is_whole (hr.mono (by omega)) (by rfl) (pa_cons (pe_ix ix_seq (pv 0) pe_int (fun _ _ => rfl)) pa_nil)) (pe_one (pe_cmpR op_ge (pe_ix ix_seq (pv 0) pe_int (fun _ _ => rfl)) pe_int (nomark _))))))))), ?_⟩
    cases st with
    | none =>
      cases hv
      exact ⟨_, rfl, rfl, _, rfl, iteP rfl (q H (Same.refl H))⟩
    | some r =>
      obtain ⟨t, rfl, ht⟩ := hv
      obtain ⟨k, c1⟩ := ok r rfl
      refine ⟨_, rfl, rfl, _, rfl, iteN rfl ?_⟩
      refine ⟨_, rfl, t, _, rfl, ht, rfl, fun H1 s1 => ⟨true, rfl, iteT ?_⟩⟩
      refine ⟨_, rfl, ix0 (ht.same s1) ⟨r.1, rfl, k, fun H2 s2 => ⟨true, rfl, iteT ?_⟩⟩⟩
      refine ⟨_, rfl, ix1 ((ht.same s1).same s2) ⟨r.2, rfl, true, rfl, iteT ?_⟩⟩
      refine ⟨_, rfl, ix1 ((ht.same s1).same s2) ⟨_, _, rfl, rfl, ?_⟩⟩
      show Q (.bl (decide (1 ≤ r.2))) H2
      rw [decide_eq_true c1]
      exact q _ (s1.trans s2)
/-! is_sequence: slots 0:value 1:run 2:following -/
abbrev s_is_sequence : Stmt := topS 23
theorem sc_is_sequence : FnScope ["value", "run", "following"] ["value"] (defScope s_is_sequence) := ⟨rfl, rfl, rfl, by decide +kernel, rfl, by decide +kernel, by decide +kernel⟩
def sp_is_sequence : Sp := fun vs H Q _ => ∃ (v : V) (rs : List Run), vs = [v] ∧ RunsG H v rs ∧ SeqOk rs ∧ ∀ H', Same H H' → Q (.bl true) H'
theorem ok_is_sequence (D : Df K mg "is_sequence" s_is_sequence) (T : Tx mg) (G_is_listed : Has P w K mg base 1 "is_listed" ["value", "most"] sp_is_listed) (G_is_run : Has P w K mg base 3 "is_run" ["value"] sp_is_run) :
    Has P w K mg base 4 "is_sequence" ["value"] sp_is_sequence := by
  refine has_of D sc_is_sequence (fun _ _ _ _ _ _ us hl => match us, hl with | [_], _ => rfl) (fun vs H Q E h => ?_) (fun f cdv A outer s H vs Q E hr h => ?_)
  · obtain ⟨v, r, rfl, _⟩ := h
    rfl
  · obtain ⟨v, rs, rfl, ⟨a, xs, rfl, hx, hp⟩, ⟨l4, rok, alt⟩, q⟩ := h
    have lx : xs.length = rs.length := Paired.len hp
    refine ⟨_, (pss_cons (ps_if (PW.pt (pw_or (pt_not (pt_val (pe_callH G_is_listed (hr.mono (by omega)) (by rfl) (pa_cons (pv 0) (pa_cons (pe_glI T.c_MAX_RUNS (by rfl)) pa_nil))))) (pw_or1 (pt_not (pt_val (pe_callB (cr_all rfl) (by rfl) T.n_all (by decide +kernel) (pa_cons (pe_lc (own := [("run", 1)]) rfl sc_is_sequence.nd (pi_seqV 0) (blkOk_by (N := ["value", "run", "following"]) (sc := defScope s_is_sequence) (by decide +kernel)) (fun _ _ _ _ _ => (pg_name (i := 1) sc_is_sequence.nd rfl (by first | exact Or.inl rfl | exact Or.inr rfl))) (fun _ _ _ _ _ => pts_nil) (fun _ _ _ _ _ => (pe_callH G_is_run (hr.mono (by omega)) (by rfl) (pa_cons (pv 1) pa_nil)))) pa_nil))))))) (pss_one (ps_ret pe_bl)) pss_nil)
    (pss_one (ps_ret (pe_callB (cr_all rfl) (by rfl) T.n_all (by decide +kernel) (pa_cons (pe_lc (own := [("run", 1), ("following", 2)]) rfl sc_is_sequence.nd (pi_zip1 (i := 0) (RZ.pi_zipA (by rfl) T.n_zip (pa_cons (pv 0) (pa_cons (pe_slice (SlR.or sl_list sl_tupA) (pv 0) (po_some pe_int) po_none) pa_nil))) (fun _ _ _ q => ⟨1, rfl, q⟩) (fun _ _ _ q => q)) (blkOk_by (N := ["value", "run", "following"]) (sc := defScope s_is_sequence) (by decide +kernel)) (fun _ _ _ _ _ => (pg_tupK (K := K) (n := 2) rfl rfl (pgs_cons (pg_name (i := 1) sc_is_sequence.nd rfl (by first | exact Or.inl rfl | exact Or.inr rfl)) (pgs_cons (pg_name (i := 2) sc_is_sequence.nd rfl (by first | exact Or.inl rfl | exact Or.inr rfl)) pgs_nil)))) (fun _ _ _ _ _ => pts_nil) (fun _ _ _ _ _ => (pe_cmpR op_ne (pe_ix (ix_seqK (K := K) rfl) (pv 1) pe_int (fun _ _ => rfl)) (pe_ix (ix_seqK (K := K) rfl) (pv 2) pe_int (fun _ _ => rfl)) (nomark _)))) pa_nil))))), ?_⟩
    refine ⟨_, rfl, a, xs, 400, rfl, hx, fun H1 s1 => ⟨_, rfl, iteN ?_ ?_⟩⟩
    · show (!decide ((xs.length : Int) ≤ 400)) = false
      rw [decide_eq_true (by omega)]
      rfl
    refine ⟨a, xs, rfl, hx.same s1, fun J wk L nL => lc_wk wk (fun i H' => Same H1 H' ∧ H' L = some (.lst ((List.replicate i true).map V.bl))) (fun _ _ p => p.1) ⟨same_upd nL, upd_same⟩ (fun i x H2 ex p => ?_) (fun H2 p => ?_)⟩
    · obtain ⟨sm, hL⟩ := p
      obtain ⟨r, er, hr1⟩ := Paired.at hp ex
      have hi : i < xs.length := (List.getElem?_eq_some_iff.mp ex).1
      refine ⟨rfl, yesT ⟨_, rfl, x, r, rfl, RunG.same (s1.trans sm) hr1, rok r (List.mem_of_getElem? er), fun H3 s3 => ⟨_, s3 _ _ hL, ?_, same_grow nL (sm.trans s3), ?_⟩⟩⟩
      · simp only [List.length_map, List.length_replicate]
        exact small (by omega)
      · rw [upd_same, List.replicate_succ', List.map_append]
        rfl
    · refine ⟨L, _, rfl, .of p.2, _, rfl, iteN ?_ ?_⟩
      · rw [all_rep]
        rfl
      have s2 : Same H H2 := s1.trans p.1
      refine ⟨a, xs, rfl, hx.same s2, fun J Hc sc wk M nM => ?_⟩
      have sA : Same H Hc := s2.trans sc
      refine lc_gen (n := xs.length - 1) (fun i H' => Same Hc H' ∧ H' M = some (.lst ((List.replicate i true).map V.bl))) ⟨same_upd nM, upd_same⟩ (fun i H' hi p => wk.go i H' p.1 (by omega)) (fun H' p => wk.stop H' p.1) (fun i x H3 H4 hi p y => ?_) (fun H' p => ?_)
      · obtain ⟨T', x1, x2, rfl, nT, rfl, g1, g2⟩ := wk.yld i x H3 H4 p.1 y
        obtain ⟨sm, hM⟩ := p
        have g2 := g2 (by omega)
        have sB : Same H H3 := sA.trans sm
        obtain ⟨r1, e1, v1⟩ := Paired.at hp g1
        obtain ⟨r2, e2, v2⟩ := Paired.at hp g2
        obtain ⟨t1, rfl, w1⟩ := RunG.same (sB.trans (same_upd (o := .tup [x1, x2]) nT)) v1
        obtain ⟨t2, rfl, w2⟩ := RunG.same (sB.trans (same_upd (o := .tup [_, x2]) nT)) v2
        refine ⟨T', _, rfl, .of upd_same, rfl, _, _, rfl, _, _, rfl, rfl, rfl, yesT ?_⟩
        refine ⟨_, rfl, ix0 w1 ⟨_, rfl, ix0 w2 ⟨rfl, _, same_upd nT _ _ hM, ?_, same_grow nM (sm.trans (same_upd nT)), ?_⟩⟩⟩
        · simp only [List.length_map, List.length_replicate]
          exact small (by omega)
        · rw [upd_same, List.replicate_succ', List.map_append]
          have ne : (!decide (V.str r1.1 = V.str r2.1)) = true := by
            rw [decide_eq_false (fun z => alt i r1 r2 e1 e2 (V.str.inj z))]
            rfl
          rw [ne]
          rfl
      · refine ⟨M, _, rfl, .of p.2, ?_⟩
        rw [all_rep]
        exact q _ (sA.trans p.1)
/-! checked_runs: slots 0:sequence 1:kind 2:count -/
abbrev s_checked_runs : Stmt := topS 25
theorem sc_checked_runs : FnScope ["sequence", "kind", "count"] ["sequence"] (defScope s_checked_runs) := ⟨rfl, rfl, rfl, by decide +kernel, rfl, by decide +kernel, by decide +kernel⟩
def sp_checked_runs : Sp := fun vs H Q _ => ∃ (v : V) (rs : List Run), vs = [v] ∧ RunsG H v rs ∧ SeqOk rs ∧ ∀ H' p, Same H H' → H p = none → Runs H' p rs → Q (.ref p) H'
theorem ok_checked_runs (D : Df K mg "checked_runs" s_checked_runs) (T : Tx mg) (G_is_sequence : Has P w K mg base 4 "is_sequence" ["value"] sp_is_sequence) :
    Has P w K mg base 5 "checked_runs" ["sequence"] sp_checked_runs := by
  refine has_of D sc_checked_runs (fun _ _ _ _ _ _ us hl => match us, hl with | [_], _ => rfl) (fun vs H Q E h => ?_) (fun f cdv A outer s H vs Q E hr h => ?_)
  · obtain ⟨v, r, rfl, _⟩ := h
    rfl
  · obtain ⟨v, rs, rfl, hR, ok, q⟩ := h
    refine ⟨_, (pss_cons (ps_if (pt_not (pt_val (pe_callH G_is_sequence (hr.mono (by omega)) (by rfl) (pa_cons (pv 0) pa_nil)))) (pss_one ps_never) pss_nil)
    (pss_one (ps_ret (pe_lc (own := [("kind", 1), ("count", 2)]) rfl sc_checked_runs.nd (pi_seqV 0) (blkOk_by (N := ["sequence", "kind", "count"]) (sc := defScope s_checked_runs) (by decide +kernel)) (fun _ _ _ _ _ => (pg_any (n := 2) rfl (pgs_cons (pg_name (i := 1) sc_checked_runs.nd rfl (by first | exact Or.inl rfl | exact Or.inr rfl)) (pgs_cons (pg_name (i := 2) sc_checked_runs.nd rfl (by first | exact Or.inl rfl | exact Or.inr rfl)) pgs_nil)))) (fun _ _ _ _ _ => pts_nil) (fun _ _ _ _ _ => (pe_tup (pa_cons (pv 1) (pa_cons (pv 2) pa_nil)))))))), ?_⟩
    refine ⟨_, rfl, v, rs, rfl, hR, ok, fun H1 s1 => ⟨true, rfl, iteF ?_⟩⟩
    obtain ⟨a, xs, rfl, hx, hp⟩ := hR
    have lx : xs.length = rs.length := Paired.len hp
    refine ⟨a, xs, rfl, hx.same s1, fun J wk L nL => lc_wk wk (fun i H' => Same H1 H' ∧ ∃ ys, H' L = some (.lst ys) ∧ Paired (RunV H') ys (rs.take i)) (fun _ _ p => p.1) ⟨same_upd nL, [], upd_same, .nil⟩ (fun i x H2 ex p => ?_) (fun H2 p => ?_)⟩
    · obtain ⟨sm, ys, hL, hy⟩ := p
      obtain ⟨r, er, hr1⟩ := Paired.at hp ex
      have hi : i < xs.length := (List.getElem?_eq_some_iff.mp ex).1
      obtain ⟨t, rfl, ht⟩ := RunG.same (s1.trans sm) hr1
      refine ⟨t, _, rfl, ht, rfl, _, _, rfl, _, _, rfl, rfl, rfl, yesT ⟨_, rfl, _, rfl, (by show 2 ≤ sizeLine; decide), fun n nn => ⟨_, same_upd nn _ _ hL, ?_, same_grow nL (sm.trans (same_upd nn)), _, upd_same, ?_⟩⟩⟩
      · have := Paired.len hy
        rw [List.length_take] at this
        exact small (by have := ok.1; omega)
      · rw [take_snoc er]
        refine Paired.app (prs_grow (same_upd nn _ _ hL) (prs_same (same_upd nn) hy)) (.cons ?_ .nil)
        exact RunV.grow (same_upd nn _ _ hL) ⟨n, rfl, upd_same⟩
    · obtain ⟨sm, ys, hL, hy⟩ := p
      rw [lx, List.take_length] at hy
      exact q H2 L (s1.trans sm) (s1.free nL) ⟨ys, hL, hy⟩
/-! checked_state: slots 0:state -/
abbrev s_checked_state : Stmt := topS 29
theorem sc_checked_state : FnScope ["state"] ["state"] (defScope s_checked_state) := ⟨rfl, rfl, rfl, by decide +kernel, rfl, by decide +kernel, by decide +kernel⟩
def sp_checked_state : Sp := fun vs H Q _ => ∃ (v : V) (st : Option Run), vs = [v] ∧ StG H v st ∧ StOk st ∧ ∀ H' v', Same H H' → StV H' v' st → Q v' H'
theorem ok_checked_state (D : Df K mg "checked_state" s_checked_state) (T : Tx mg) (G_is_state : Has P w K mg base 2 "is_state" ["value"] sp_is_state) :
    Has P w K mg base 3 "checked_state" ["state"] sp_checked_state := by
  refine has_of D sc_checked_state (fun _ _ _ _ _ _ us hl => match us, hl with | [_], _ => rfl) (fun vs H Q E h => ?_) (fun f cdv A outer s H vs Q E hr h => ?_)
  · obtain ⟨v, r, rfl, _⟩ := h
    rfl
  · obtain ⟨v, st, rfl, hv, ok, q⟩ := h
    refine ⟨_, (pss_cons (ps_if (pt_not (pt_val (pe_callH G_is_state (hr.mono (by omega)) (by rfl) (pa_cons (pv 0) pa_nil)))) (pss_one ps_never) pss_nil)
    (pss_one (ps_ret (pe_ifExp (pt_cmpR op_isN (pv 0) pe_non (nomark _)) pe_non (pe_callTy call_tuple_of (by rfl) T.n_tuple (by decide +kernel) (pa_cons (pv 0) pa_nil)))))), ?_⟩
    refine ⟨_, rfl, v, st, rfl, hv, ok, fun H1 s1 => ⟨true, rfl, iteF ?_⟩⟩
    cases st with
    | none =>
      cases hv
      exact ⟨_, rfl, rfl, _, rfl, iteP rfl (q H1 _ s1 rfl)⟩
    | some r =>
      obtain ⟨t, rfl, ht⟩ := hv
      refine ⟨_, rfl, rfl, _, rfl, iteN rfl ⟨_, rfl, t, [.str r.1, .int r.2], rfl, ?_⟩⟩
      rcases ht.same s1 with z | z
      · exact .inl ⟨.of z, fun l nl => q _ _ (s1.trans (same_upd nl)) ⟨l, rfl, upd_same⟩⟩
      · exact .inr ⟨.of z, q H1 _ s1 ⟨t, rfl, z⟩⟩
end
end UP

set_option Elab.async false
set_option linter.all false
set_option maxRecDepth 100000
set_option maxHeartbeats 4000000
namespace UP
open PySem PySem.Spec PyProof.Rows L2
section
variable {P : Program} {w : World} {K : PySem.W.Frag} {mg : Str → Option Value} {base : Heap}
def lenR (rs : List Run) : Int := (rs.map (·.2)).sum
/-! length_of: slots 0:runs 1:kind 2:count -/
abbrev s_length_of : Stmt := topS 30
theorem sc_length_of : FnScope ["runs", "kind", "count"] ["runs"] (defScope s_length_of) := ⟨rfl, rfl, rfl, by decide +kernel, rfl, by decide +kernel, by decide +kernel⟩
def sp_length_of : Sp := fun vs H Q _ => ∃ (a : Addr) (rs : List Run), vs = [.ref a] ∧ Runs H a rs ∧ rs.length ≤ 1000 ∧ ∀ H', Same H H' → Q (.int (lenR rs)) H'
theorem ok_length_of (D : Df K mg "length_of" s_length_of) (T : Tx mg) : Has P w K mg base 1 "length_of" ["runs"] sp_length_of := by
  refine has_of D sc_length_of (fun _ _ _ _ _ _ us hl => match us, hl with | [_], _ => rfl) (fun vs H Q E h => ?_) (fun f cdv A outer s H vs Q E hr h => ?_)
  · obtain ⟨v, r, rfl, _⟩ := h
    rfl
  · obtain ⟨a, rs, rfl, ⟨xs, hx, hp⟩, l4, q⟩ := h
    have lx : xs.length = rs.length := Paired.len hp
    refine ⟨_, (pss_one (ps_ret (pe_callB (cr_sum rfl) (by rfl) T.n_sum (by decide +kernel) (pa_cons (pe_lc (own := [("kind", 1), ("count", 2)]) rfl sc_length_of.nd (pi_list (pv 0)) (blkOk_by (N := ["runs", "kind", "count"]) (sc := defScope s_length_of) (by decide +kernel)) (fun _ _ _ _ _ => (pg_tupK (K := K) (n := 2) rfl rfl (pgs_cons (pg_name (i := 1) sc_length_of.nd rfl (by first | exact Or.inl rfl | exact Or.inr rfl)) (pgs_cons (pg_name (i := 2) sc_length_of.nd rfl (by first | exact Or.inl rfl | exact Or.inr rfl)) pgs_nil)))) (fun _ _ _ _ _ => pts_nil) (fun _ _ _ _ _ => (pv 2))) pa_nil)))), ?_⟩
    refine ⟨_, rfl, a, rfl, ⟨xs, .of hx⟩, fun L nL => lc_list (K := K) (a := a) (xs := xs) (fun i H' => Same H H' ∧ H' L = some (.lst (((rs.map (·.2)).take i).map V.int))) ⟨same_upd nL, upd_same⟩ (fun i H' _ p => .of (p.1 _ _ hx)) (fun i x H2 ex p => ?_) (fun H2 p => ?_)⟩
    · obtain ⟨sm, hL⟩ := p
      obtain ⟨r, er, hr1⟩ := Paired.at hp ex
      have hi : i < xs.length := (List.getElem?_eq_some_iff.mp ex).1
      obtain ⟨t, rfl, ht⟩ := RunV.same sm hr1
      refine ⟨t, _, rfl, .of ht, rfl, _, _, rfl, _, _, rfl, rfl, rfl, yesT ⟨_, rfl, _, hL, ?_, same_grow nL sm, ?_⟩⟩
      · simp only [List.length_map, List.length_take]
        exact small (by omega)
      · rw [upd_same, take_snoc (x := r.2) (by rw [List.getElem?_map, er]; rfl), List.map_append]
        rfl
    · refine ⟨L, (rs.map (fun r : Run => r.2)), rfl, .of ?_, q H2 p.1⟩
      have := p.2
      rw [List.take_of_length_le (by rw [List.length_map]; omega)] at this
      exact this
end
end UP

set_option Elab.async false
set_option linter.all false
set_option maxRecDepth 100000
set_option maxHeartbeats 4000000
namespace UP
open PySem PySem.Spec PyProof.Rows L2
/-! ### the mirror of cut -/
theorem lenR_nil : lenR [] = 0 := rfl
theorem lenR_cons (r : Run) (l : List Run) : lenR (r :: l) = r.2 + lenR l := by
  unfold lenR
  rw [List.map_cons, List.sum_cons]
theorem lenR_app (l m : List Run) : lenR (l ++ m) = lenR l + lenR m := by
  induction l with
  | nil => rw [List.nil_append, lenR_nil]; omega
  | cons r t ih => rw [List.cons_append, lenR_cons, lenR_cons, ih]; omega
theorem lenR_snoc (l : List Run) (r : Run) : lenR (l ++ [r]) = lenR l + r.2 := by
  rw [lenR_app, lenR_cons, lenR_nil]
  omega
def sizeR (b s e c : Int) : Int := (if b + c < e then b + c else e) - (if b > s then b else s)
def pieceR (b s e : Int) (r : Run) : List Run := if 0 < sizeR b s e r.2 then [(r.1, sizeR b s e r.2)] else []
def cutR (s e : Int) : Int → List Run → List Run
  | _, [] => []
  | b, r :: t => pieceR b s e r ++ cutR s e (b + r.2) t
theorem cutR_snoc (s e : Int) : ∀ (l : List Run) (b : Int) (r : Run), cutR s e b (l ++ [r]) = cutR s e b l ++ pieceR (b + lenR l) s e r
  | [], b, r => by
    show pieceR b s e r ++ [] = [] ++ pieceR (b + lenR []) s e r
    rw [lenR_nil, Int.add_zero, List.append_nil, List.nil_append]
  | x :: t, b, r => by
    show pieceR b s e x ++ cutR s e (b + x.2) (t ++ [r]) = (pieceR b s e x ++ cutR s e (b + x.2) t) ++ pieceR (b + lenR (x :: t)) s e r
    rw [cutR_snoc s e t, lenR_cons, List.append_assoc, Int.add_assoc]
theorem pieceR_len (b s e : Int) (r : Run) : (pieceR b s e r).length ≤ 1 := by
  unfold pieceR
  split <;> simp
theorem cutR_len (s e : Int) : ∀ (l : List Run) (b : Int), (cutR s e b l).length ≤ l.length
  | [], _ => Nat.le_refl _
  | r :: t, b => by
    show (pieceR b s e r ++ cutR s e (b + r.2) t).length ≤ (r :: t).length
    have h1 := pieceR_len b s e r
    have h2 := cutR_len s e t (b + r.2)
    rw [List.length_append, List.length_cons]
    omega
section
variable {P : Program} {w : World} {K : PySem.W.Frag} {mg : Str → Option Value} {base : Heap}
end
end UP

set_option Elab.async false
set_option linter.all false
set_option maxRecDepth 100000
set_option maxHeartbeats 4000000
namespace UP
open PySem PySem.Spec PyProof.Rows L2
/-! ### the mirror of the states -/
def numR : Option Run → Int
  | none => 0
  | some r => r.2
def leavR : Option Run → Str → Int → Int
  | none, _, _ => 0
  | some r, k, c => if r.1 = k then 0 else if c < r.2 then c else r.2
def stepR : Option Run → Str → Int → Option Run
  | some r, k, c => if r.1 = k then some (k, r.2 + c) else if 0 < r.2 - c then some (r.1, r.2 - c) else if r.2 - c = 0 then none else some (k, -(r.2 - c))
  | none, k, c => some (k, c)
def withR (k : Str) (n : Int) : Option Run := if n = 0 then none else some (k, n)
def stR (rs : List Run) (st : Option Run) : Option Run := rs.foldl (fun s r => stepR s r.1 r.2) st
theorem stR_snoc (l : List Run) (r : Run) (st : Option Run) : stR (l ++ [r]) st = stepR (stR l st) r.1 r.2 := by
  unfold stR
  rw [List.foldl_append]
  rfl
theorem atSE {K : PySem.W.Frag} {H : Hp} {t : Addr} {xs : List V} {i : Int} {x : V} {Q : VK} (h : Sq2 H t xs) (e : atI xs i = some x) (q : Q x H) : rIx K (.ref t) (.int i) H Q := h.elim (fun z => .inl ⟨t, _, i, _, rfl, rfl, .of z, e, q⟩) (fun z => .inr (.inl ⟨t, _, i, _, rfl, rfl, .of z, e, q⟩))
section
variable {P : Program} {w : World} {K : PySem.W.Frag} {mg : Str → Option Value} {base : Heap}
/-! waiting_number: slots 0:state -/
abbrev s_waiting_number : Stmt := topS 34
theorem sc_waiting_number : FnScope ["state"] ["state"] (defScope s_waiting_number) := ⟨rfl, rfl, rfl, by decide +kernel, rfl, by decide +kernel, by decide +kernel⟩
def sp_waiting_number : Sp := fun vs H Q _ => ∃ (v : V) (st : Option Run), vs = [v] ∧ StG H v st ∧ Q (.int (numR st)) H
theorem ok_waiting_number (D : Df K mg "waiting_number" s_waiting_number) : Has P w K mg base 1 "waiting_number" ["state"] sp_waiting_number := by
  refine has_of D sc_waiting_number (fun _ _ _ _ _ _ us hl => match us, hl with | [_], _ => rfl) (fun vs H Q E h => ?_) (fun f cdv A outer s₀ H vs Q E hr h => ?_)
  · obtain ⟨_, _, rfl, _⟩ := h
    rfl
  · obtain ⟨v, st, rfl, hv, q⟩ := h
    refine ⟨_, (pss_one (ps_ret (pe_ifExp (pt_cmpR op_isN (pv 0) pe_non (nomark _)) pe_int (pe_ix ix_seq (pv 0) pe_int (fun _ _ => rfl))))), ?_⟩
    cases st with
    | none =>
      cases hv
      exact ⟨_, rfl, rfl, _, rfl, iteP rfl q⟩
    | some r =>
      obtain ⟨t, rfl, ht⟩ := hv
      exact ⟨_, rfl, rfl, _, rfl, iteN rfl ⟨_, rfl, atSE ht rfl q⟩⟩
/-! state_with: slots 0:kind 1:number -/
abbrev s_state_with : Stmt := topS 35
theorem sc_state_with : FnScope ["kind", "number"] ["kind", "number"] (defScope s_state_with) := ⟨rfl, rfl, rfl, by decide +kernel, rfl, by decide +kernel, by decide +kernel⟩
def sp_state_with : Sp := fun vs H Q _ => ∃ (k : Str) (n : Int), vs = [.str k, .int n] ∧ ∀ H' v', Same H H' → StV H' v' (withR k n) → Q v' H'
theorem ok_state_with (D : Df K mg "state_with" s_state_with) : Has P w K mg base 1 "state_with" ["kind", "number"] sp_state_with := by
  refine has_of D sc_state_with (fun _ _ _ _ _ _ us hl => match us, hl with | [_, _], _ => rfl) (fun vs H Q E h => ?_) (fun f cdv A outer s₀ H vs Q E hr h => ?_)
  · obtain ⟨k, n, rfl, _⟩ := h
    rfl
  · obtain ⟨k, n, rfl, q⟩ := h
    refine ⟨_, (pss_one (ps_ret (pe_ifExp (pt_cmpR op_eq (pv 1) pe_int (nomark _)) pe_non (pe_tup (pa_cons (pv 0) (pa_cons (pv 1) pa_nil)))))), ?_⟩
    refine ⟨_, rfl, rfl, _, rfl, ?_⟩
    by_cases e : n = 0
    · rw [show withR k n = none from if_pos e] at q
      exact iteP (decide_eq_true (by rw [e])) (q _ _ (Same.refl _) rfl)
    · rw [show withR k n = some (k, n) from if_neg e] at q
      refine iteN (decide_eq_false fun z => e (V.int.inj z)) ?_
      exact ⟨_, rfl, _, rfl, (by show 2 ≤ sizeLine; decide), fun n' nn => q _ _ (same_upd nn) ⟨n', rfl, upd_same⟩⟩
/-! state_after_run: slots 0:state 1:kind 2:count 3:left_over -/
abbrev s_state_after_run : Stmt := topS 36
theorem sc_state_after_run : FnScope ["state", "kind", "count", "left_over"] ["state", "kind", "count"] (defScope s_state_after_run) := ⟨rfl, rfl, rfl, by decide +kernel, rfl, by decide +kernel, by decide +kernel⟩
def sp_state_after_run : Sp := fun vs H Q _ => ∃ (v : V) (st : Option Run) (k : Str) (c : Int), vs = [v, .str k, .int c] ∧ StV H v st ∧ 1 ≤ c ∧ ∀ H' v', Same H H' → StV H' v' (stepR st k c) → Q v' H'
theorem ok_state_after_run (D : Df K mg "state_after_run" s_state_after_run) (G_waiting_number : Has P w K mg base 1 "waiting_number" ["state"] sp_waiting_number) (G_state_with : Has P w K mg base 1 "state_with" ["kind", "number"] sp_state_with) : Has P w K mg base 2 "state_after_run" ["state", "kind", "count"] sp_state_after_run := by
  refine has_of D sc_state_after_run (fun _ _ _ _ _ _ us hl => match us, hl with | [_, _, _], _ => rfl) (fun vs H Q E h => ?_) (fun f cdv A outer s₀ H vs Q E hr h => ?_)
  · obtain ⟨a, rs, _, _, rfl, _⟩ := h
    rfl
  · obtain ⟨v, st, k, c, rfl, hv, hc, q⟩ := h
    refine ⟨_, (pss_cons (ps_if (PW.pt (pw_and (pt_cmpR op_notN (pv 0) pe_non (nomark _)) (pw_and1 (pt_cmpR op_eq (pe_ix ix_tup (pv 0) pe_int (fun _ _ => rfl)) (pv 1) (nomark _))))) (pss_one (ps_ret (pe_tup (pa_cons (pv 1) (pa_cons (pe_op op_add (pe_ix ix_tup (pv 0) pe_int (fun _ _ => rfl)) (pv 2)) pa_nil))))) pss_nil)
    (pss_cons (ps_set (i := 3) sc_state_after_run.nd rfl (by first | exact Or.inl rfl | exact Or.inr rfl) (pe_op op_sub (pe_callH G_waiting_number (hr.mono (by omega)) (by rfl) (pa_cons (pv 0) pa_nil)) (pv 2)))
    (pss_cons (ps_if (pt_cmpR op_gt (pv 3) pe_int (nomark _)) (pss_one (ps_ret (pe_tup (pa_cons (pe_ix ix_tup (pv 0) pe_int (fun _ _ => rfl)) (pa_cons (pv 3) pa_nil))))) pss_nil)
    (pss_one (ps_ret (pe_callH G_state_with (hr.mono (by omega)) (by rfl) (pa_cons (pv 1) (pa_cons (pe_un un_neg (pv 3)) pa_nil)))))))), ?_⟩
    cases st with
    | none =>
      cases hv
      refine ⟨_, rfl, rfl, _, rfl, iteN rfl (iteF ?_)⟩
      refine ⟨_, rfl, _, none, rfl, rfl, _, rfl, _, _, rfl, rfl, ?_⟩
      refine ⟨_, rfl, _, _, rfl, rfl, _, rfl, iteN (decide_eq_false (by show ¬ (0 : Int) < 0 - c; omega)) ?_⟩
      refine ⟨_, rfl, _, rfl, _, rfl, k, -(0 - c), rfl, fun H' v' s h => q H' v' s ?_⟩
      have e : withR k (-(0 - c)) = some (k, c) := by
        unfold withR
        rw [if_neg (by omega), show -(0 - c) = c by omega]
      rw [e] at h
      exact h
    | some r =>
      obtain ⟨t, rfl, ht⟩ := hv
      refine ⟨_, rfl, rfl, _, rfl, iteP rfl ⟨_, rfl, t, _, 0, _, rfl, rfl, .of ht, at0, _, rfl, rfl, _, rfl, ?_⟩⟩
      by_cases e : r.1 = k
      · have es : stepR (some r) k c = some (k, r.2 + c) := if_pos e
        rw [es] at q
        refine iteP (by rw [e]; exact decide_eq_true rfl) ?_
        exact ⟨_, rfl, _, rfl, t, _, 1, _, rfl, rfl, .of ht, at1, _, rfl, _, _, rfl, rfl, (by show 2 ≤ sizeLine; decide), fun n nn => q _ _ (same_upd nn) ⟨n, rfl, upd_same⟩⟩
      · refine iteN (decide_eq_false fun z => e (V.str.inj z)) ?_
        have es : stepR (some r) k c = if 0 < r.2 - c then some (r.1, r.2 - c) else if r.2 - c = 0 then none else some (k, -(r.2 - c)) := if_neg e
        rw [es] at q
        refine ⟨_, rfl, _, some r, rfl, ⟨t, rfl, .inr ht⟩, _, rfl, _, _, rfl, rfl, ?_⟩
        refine ⟨_, rfl, _, _, rfl, rfl, _, rfl, ?_⟩
        by_cases e1 : 0 < r.2 - c
        · rw [if_pos e1] at q
          refine iteP (decide_eq_true e1) ?_
          exact ⟨_, rfl, t, _, 0, _, rfl, rfl, .of ht, at0, _, rfl, (by show 2 ≤ sizeLine; decide), fun n nn => q _ _ (same_upd nn) ⟨n, rfl, upd_same⟩⟩
        · rw [if_neg e1] at q
          refine iteN (decide_eq_false e1) ⟨_, rfl, _, rfl, _, rfl, k, -(r.2 - c), rfl, fun H' v' s h => q H' v' s ?_⟩
          have e3 : withR k (-(r.2 - c)) = if r.2 - c = 0 then none else some (k, -(r.2 - c)) := by
            unfold withR
            by_cases e2 : r.2 - c = 0
            · rw [if_pos e2, if_pos (by omega)]
            · rw [if_neg e2, if_neg (by omega)]
          rw [e3] at h
          exact h
/-! state_after_runs: slots 0:runs 1:state 2:kind 3:count -/
abbrev s_state_after_runs : Stmt := topS 37
theorem sc_state_after_runs : FnScope ["runs", "state", "kind", "count"] ["runs", "state"] (defScope s_state_after_runs) := ⟨rfl, rfl, rfl, by decide +kernel, rfl, by decide +kernel, by decide +kernel⟩
def sp_state_after_runs : Sp := fun vs H Q _ => ∃ (a : Addr) (rs : List Run) (v : V) (st : Option Run), vs = [.ref a, v] ∧ Runs H a rs ∧ (∀ r ∈ rs, 1 ≤ r.2) ∧ StV H v st ∧ ∀ H' v', Same H H' → StV H' v' (stR rs st) → Q v' H'
theorem ok_state_after_runs (D : Df K mg "state_after_runs" s_state_after_runs) (G_state_after_run : Has P w K mg base 2 "state_after_run" ["state", "kind", "count"] sp_state_after_run) : Has P w K mg base 3 "state_after_runs" ["runs", "state"] sp_state_after_runs := by
  refine has_of D sc_state_after_runs (fun _ _ _ _ _ _ us hl => match us, hl with | [_, _], _ => rfl) (fun vs H Q E h => ?_) (fun f cdv A outer s₀ H vs Q E hr h => ?_)
  · obtain ⟨a, rs, _, _, rfl, _⟩ := h
    rfl
  · obtain ⟨a, rs, v, st, rfl, ⟨xs, hx, hp⟩, pos, hv, q⟩ := h
    have lx : xs.length = rs.length := Paired.len hp
    refine ⟨_, (pss_cons (ps_for PassesOwn.never rfl (pi_list (pv 0)) (pg_tup rfl (pgs_cons (pg_name (i := 2) sc_state_after_runs.nd rfl (by first | exact Or.inl rfl | exact Or.inr rfl)) (pgs_cons (pg_name (i := 3) sc_state_after_runs.nd rfl (by first | exact Or.inl rfl | exact Or.inr rfl)) pgs_nil)))
      (pss_one (ps_set (i := 1) sc_state_after_runs.nd rfl (by first | exact Or.inl rfl | exact Or.inr rfl) (pe_callH G_state_after_run (hr.mono (by omega)) (by rfl) (pa_cons (pv 1) (pa_cons (pv 2) (pa_cons (pv 3) pa_nil)))))))
    (pss_one (ps_ret (pv 1)))), ?_⟩
    refine ⟨_, rfl, a, rfl, ⟨xs, .of hx⟩, for_list (K := K) (a := a) (xs := xs) (fun i σ H' => ∃ v' y2 y3, σ = [some (.ref a), some v', y2, y3] ∧ Same H H' ∧ StV H' v' (stR (rs.take i) st))
      ⟨v, none, none, rfl, Same.refl H, hv⟩ (fun i σ H' _ hP => ?_) (fun i x σ H1 ex hP => ?_) (fun σ H1 hP => ?_)⟩
    · obtain ⟨_, _, _, _, sm, _⟩ := hP
      exact .of (sm _ _ hx)
    · obtain ⟨v', y2, y3, rfl, sm, hv'⟩ := hP
      obtain ⟨r, er, hr1⟩ := Paired.at hp ex
      obtain ⟨t, rfl, ht⟩ := RunV.same sm hr1
      refine ⟨t, _, rfl, .of ht, rfl, _, _, rfl, _, _, rfl, rfl, ?_⟩
      refine ⟨_, rfl, _, rfl, _, rfl, v', _, r.1, r.2, rfl, hv', pos r (List.mem_of_getElem? er), fun H2 v2 s2 h2 => ⟨v2, _, _, rfl, sm.trans s2, ?_⟩⟩
      rw [take_snoc er, stR_snoc]
      exact h2
    · obtain ⟨v', y2, y3, rfl, sm, hv'⟩ := hP
      rw [lx, List.take_length] at hv'
      exact ⟨_, rfl, q H1 v' sm hv'⟩
end
end UP

set_option Elab.async false
set_option linter.all false
set_option maxRecDepth 100000
set_option maxHeartbeats 4000000
namespace UP
open PySem PySem.Spec PyProof.Rows L2
def DfD (K : PySem.W.Frag) (mg : Str → Option Value) (x : Str) (st : Stmt) (dvs : List V) : Prop := ∃ f fd, mg x = some (.ref f) ∧ FunD K x x (defArgs st) (defBody st) (defScope st) dvs [] f fd
/-- a def whose last parameter, kw, has the default None -/
def HasD (P : Program) (w : World) (K : PySem.W.Frag) (mg : Str → Option Value) (base : Heap) (k : Nat) (x : Str) (ps : List Str) (n : Nat) (kw : Str) (sp : Sp) : Prop :=
  ∃ f fd, mg x = some (.ref f) ∧ PySem.W.keepIn K (.ref f) = true ∧ Binds K fd ps [] ∧ (∃ ds, Vals [.non] ds ∧ Binds K fd ps ds) ∧ KBn K fd ps n [kw] (fun us ws => us ++ ws) (fun vs zs => vs ++ zs) ∧ FnOk P w K mg base CX0 k f fd ps sp
section
variable {P : Program} {w : World} {K : PySem.W.Frag} {mg : Str → Option Value} {base : Heap}
theorem HasD.has {k n : Nat} {x kw : Str} {ps : List Str} {sp : Sp} (h : HasD P w K mg base k x ps n kw sp) : Has P w K mg base k x ps sp := by
  obtain ⟨f, fd, g, kp, b, _, _, F⟩ := h
  exact ⟨f, fd, g, kp, b, F⟩
theorem has_ofD {x kw : Str} {st : Stmt} {ps N : List Str} {k n : Nat} {sp : Sp} (D : DfD K mg x st [.non]) (S : FnScope N ps (defScope st)) (hpn : ps.length = n + 1)
    (hb : ∀ (T : Addr) (kV doc pm : Value) (an : Option Addr) (cdv ct : Value) (us its : List Value), us.length = n + 1 → its.length = 1 →
      ∃ k, bindArgs (PySem.W.fnOf x x (defArgs st) (defBody st) (defScope st) (.ref T) kV doc pm an cdv ct) ⟨us, []⟩ = seqItems? (.ref T) >>= k ∧ k (some its.toArray) = pure (ps.zip us))
    (hb1 : ∀ (T : Addr) (kV doc pm : Value) (an : Option Addr) (cdv ct : Value) (us its : List Value), us.length = n → its.length = 1 →
      ∃ k, bindArgs (PySem.W.fnOf x x (defArgs st) (defBody st) (defScope st) (.ref T) kV doc pm an cdv ct) ⟨us, []⟩ = seqItems? (.ref T) >>= k ∧ k (some its.toArray) = pure (ps.zip (us ++ its)))
    (hb2 : ∀ (T : Addr) (kV doc pm : Value) (an : Option Addr) (cdv ct : Value) (us its : List Value) (v : Value), us.length = n → its.length = 1 →
      ∃ k, bindArgs (PySem.W.fnOf x x (defArgs st) (defBody st) (defScope st) (.ref T) kV doc pm an cdv ct) ⟨us, [(kw, v)]⟩ = seqItems? (.ref T) >>= k ∧ k (some its.toArray) = pure (ps.zip (us ++ [v])))
    (len : ∀ vs H Q E, sp vs H Q E → vs.length = ps.length)
    (body : ∀ (f : Addr) (cdv : Value) (A : Around) (outer : List Env) (s : Shared) (H : Hp) (vs : List V) (Q : VK) (E : XK), Room k (A.deeper (envOfC x (defScope st) s.heap.objs.size f cdv)) → sp vs H Q E →
      ∃ t, PSs (cxOf CX0 P w K mg base N x (defScope st) f cdv A outer s H E).nox (defBody st) t ∧ t { nx := fun _ H' => Q .non H', rt := Q } (start N vs) H) :
    HasD P w K mg base (k + 1) x ps n kw sp := by
  obtain ⟨f, fd, g, F⟩ := D
  have B0 : Binds K fd ps [] := by
    obtain ⟨ds, v, b⟩ := F.binds1 (n + 1) 1 (ps := ps) (by intro z; cases z) (by rw [hpn]; rfl) fun T kV doc pm an cdv ct us its h1 h2 => by
      obtain ⟨k, e1, e2⟩ := hb T kV doc pm an cdv ct us its h1 h2
      refine ⟨k, e1, ?_⟩
      have h3 : its.length ≤ 1 := Nat.le_of_eq h2
      rw [e2, List.drop_of_length_le h3, List.append_nil]
    cases v
    exact b
  have B1 : ∃ ds, Vals [V.non] ds ∧ Binds K fd ps ds := by
    obtain ⟨ds, v, b⟩ := F.binds1 n 0 (ps := ps) (by intro z; cases z) (by rw [hpn]; rfl) fun T kV doc pm an cdv ct us its h1 h2 => by
      obtain ⟨k, e1, e2⟩ := hb1 T kV doc pm an cdv ct us its h1 h2
      exact ⟨k, e1, by rw [e2, List.drop_zero]⟩
    exact ⟨ds, v, b⟩
  have B2 : KBn K fd ps n [kw] (fun us ws => us ++ ws) (fun vs zs => vs ++ zs) := by
    refine ⟨fun s us ws X l1 l2 => ?_, fun r1 r2 => r1.append r2⟩
    obtain ⟨oc, od, dV, kV, doc, pm, an, cdv, ct, osl, rfl, lk, hcd, hD, _⟩ := F.ex
    rcases hD with ⟨z, _⟩ | ⟨_, T, o, its, m, rfl, lT, oT, rT⟩
    · cases z
    · match ws, l2 with
      | [v], _ =>
        obtain ⟨k, e1, e2⟩ := hb2 T kV doc pm an cdv ct us its v l1 rT.length.symm
        refine BindsTo.of_looks fun M => ?_
        show PySem.W.Looks M s.heap (bindArgs _ ⟨us, [(kw, v)]⟩) _
        rw [e1]
        exact looks_items X lT oT (.of_pure e2)
  refine ⟨f, fd, g, F.kp, B0, B1, B2, F.ok S len fun cdv A outer s H vs Q E hr h => ?_⟩
  obtain ⟨t, p, q⟩ := body f cdv A outer s H vs Q E hr h
  exact ⟨t, p.nox, q⟩
end
section
variable {X : Cx}
/-- the default taken -/
theorem pe_callDH {k n : Nat} {x kw : Str} {ps : List Str} {sp : Sp} {p pos : Pos} {e : Expr} {es : List Expr} {t : TA} (G : HasD X.prog X.w X.K X.mg X.base k x ps n kw sp) (hr : Room k X.A) (hg : Gl X x) (ha : PA X (e :: es) t)
    (hdb : (x == ("__debug__" : Str)) = false := by decide) (he : starEach (e :: es) X.env = (false, eval e X.env) :: starEach es X.env := by rfl) (hpl : (backTo pos (starEach es X.env)).any (·.1) = false := by rfl) :
    PE X (.Call (.Name x p) (e :: es) [] pos) (tCall sp [.non] E0 t) := by
  obtain ⟨f, fd, g, kp, _, ⟨ds, v, b⟩, _, F⟩ := G
  exact pe_call F hr hg g kp b v pass0 ha hdb he hpl
/-- the last one by its name -/
theorem pe_callNH {k n : Nat} {x kw : Str} {ps : List Str} {sp : Sp} {p pos : Pos} {e : Expr} {es : List Expr} {kws : List Keyword} {t tk : TA} (G : HasD X.prog X.w X.K X.mg X.base k x ps n kw sp) (hr : Room k X.A) (hg : Gl X x) (ha : PA X (e :: es) t) (hk : PK X kws tk)
    (h1 : (backToKw pos (keywordEach kws X.env)).all (·.1.isSome) = true := by rfl) (h2 : (backToKw pos (keywordEach kws X.env)).filterMap (·.1) = [kw] := by rfl) (hdb : (x == ("__debug__" : Str)) = false := by decide)
    (he : starEach (e :: es) X.env = (false, eval e X.env) :: starEach es X.env := by rfl) (hpl : ((backTo pos (starEach (e :: es) X.env)).any (·.1) || (backToKw pos (keywordEach kws X.env)).any (·.1.isNone)) = false := by rfl) :
    PE X (.Call (.Name x p) (e :: es) kws pos) (tCallN n 1 sp (fun vs zs => vs ++ zs) E0 t tk) := by
  obtain ⟨f, fd, g, kp, _, _, b, F⟩ := G
  exact pe_callN F hr hg g kp b pass0 ha hk h1 h2 hdb he hpl
end
section
variable {P : Program} {w : World} {K : PySem.W.Frag} {mg : Str → Option Value} {base : Heap}
theorem SeqOk.pos {rs : List Run} (h : SeqOk rs) : ∀ r ∈ rs, 1 ≤ r.2 := fun r m => (h.2.1 r m).2.1
theorem pieceR_pos {b s e : Int} {r x : Run} (h : x ∈ pieceR b s e r) : 1 ≤ x.2 := by
  unfold pieceR at h
  split at h
  · rename_i z
    simp only [List.mem_singleton] at h
    subst h
    show 1 ≤ sizeR b s e r.2
    omega
  · cases h
theorem cutR_pos {s e : Int} : ∀ {l : List Run} {b : Int}, ∀ x ∈ cutR s e b l, 1 ≤ x.2
  | [], _, x, h => by cases h
  | r :: t, b, x, h => by
    rcases List.mem_append.mp (show x ∈ pieceR b s e r ++ cutR s e (b + r.2) t from h) with h | h
    · exact pieceR_pos h
    · exact cutR_pos x h
/-! state_after: slots 0:sequence 1:state 2:runs -/
abbrev s_state_after : Stmt := topS 38
theorem sc_state_after : FnScope ["sequence", "state", "runs"] ["sequence", "state"] (defScope s_state_after) := ⟨rfl, rfl, rfl, by decide +kernel, rfl, by decide +kernel, by decide +kernel⟩
def sp_state_after : Sp := fun vs H Q _ => ∃ (a : V) (rs : List Run) (v : V) (st : Option Run), vs = [a, v] ∧ RunsG H a rs ∧ SeqOk rs ∧ StG H v st ∧ StOk st ∧ ∀ H' v', Same H H' → StV H' v' (stR rs st) → Q v' H'
theorem ok_state_after (D : DfD K mg "state_after" s_state_after [.non]) (G_checked_runs : Has P w K mg base 5 "checked_runs" ["sequence"] sp_checked_runs) (G_checked_state : Has P w K mg base 3 "checked_state" ["state"] sp_checked_state) (G_state_after_runs : Has P w K mg base 3 "state_after_runs" ["runs", "state"] sp_state_after_runs) :
    HasD P w K mg base 6 "state_after" ["sequence", "state"] 1 "state" sp_state_after := by
  refine has_ofD D sc_state_after rfl (fun _ _ _ _ _ _ _ us its hl h1 => match us, hl, its, h1 with | [_, _], _, [_], _ => ⟨_, rfl, rfl⟩) (fun _ _ _ _ _ _ _ us its hl h1 => match us, hl, its, h1 with | [_], _, [_], _ => ⟨_, rfl, rfl⟩) (fun _ _ _ _ _ _ _ us its v hl h1 => match us, hl, its, h1 with | [_], _, [_], _ => ⟨_, rfl, rfl⟩) (fun vs H Q E h => ?_) (fun f cdv A outer s₀ H vs Q E hr h => ?_)
  · obtain ⟨a, rs, _, _, rfl, _⟩ := h
    rfl
  · obtain ⟨a, rs, v, st, rfl, hR, ok, hv, so, q⟩ := h
    refine ⟨_, (pss_cons (ps_set (i := 2) sc_state_after.nd rfl (by first | exact Or.inl rfl | exact Or.inr rfl) (pe_callH G_checked_runs (hr.mono (by omega)) (by rfl) (pa_cons (pv 0) pa_nil)))
    (pss_one (ps_ret (pe_callH G_state_after_runs (hr.mono (by omega)) (by rfl) (pa_cons (pv 2) (pa_cons (pe_callH G_checked_state (hr.mono (by omega)) (by rfl) (pa_cons (pv 1) pa_nil)) pa_nil)))))), ?_⟩
    refine ⟨_, rfl, a, rs, rfl, hR, ok, fun H1 p s1 np hp => ?_⟩
    refine ⟨_, rfl, _, rfl, v, st, rfl, hv.same s1, so, fun H2 v2 s2 h2 => ?_⟩
    exact ⟨p, rs, v2, st, rfl, hp.same s2, SeqOk.pos ok, h2, fun H3 v3 s3 h3 => q H3 v3 (s1.trans (s2.trans s3)) h3⟩
end
end UP

set_option Elab.async false
set_option linter.all false
set_option maxRecDepth 100000
set_option maxHeartbeats 4000000
namespace UP
open PySem PySem.Spec PyProof.Rows L2
section
variable {P : Program} {w : World} {K : PySem.W.Frag} {mg : Str → Option Value} {base : Heap}
end
end UP

set_option Elab.async false
set_option linter.all false
set_option maxRecDepth 100000
set_option maxHeartbeats 4000000
namespace UP
open PySem PySem.Spec PyProof.Rows L2
/-! ### data -/
def dRun (r : Run) : PyData := .tuple [.str r.1, .int r.2]
theorem dp_run {K : PySem.W.Frag} {H : Hp} {v : V} {r : Run} (h : RunV H v r) : Dp K H v (dRun r) := by
  obtain ⟨t, rfl, h⟩ := h
  exact .tup (.of h) (.cons (.str _) (.cons (.int _) .nil))
theorem dp_all {K : PySem.W.Frag} {H : Hp} : ∀ {xs : List V} {rs : List Run}, Paired (RunV H) xs rs → DpAll K H xs (rs.map dRun)
  | _, _, .nil => .nil
  | _, _, .cons h t => .cons (dp_run h) (dp_all t)
theorem KindOk.str {s : Str} (h : KindOk s) : PyData.strOk s = true := by
  unfold PyData.strOk
  rw [Array.all_eq_true']
  intro c hc
  have := h.2.2 c (by simpa using hc)
  exact decide_eq_true (by omega)
theorem can_run {r : Run} (h : KindOk r.1) : (dRun r).canLay0 = true := by
  simp [dRun, PyData.canLay0, PyData.canLayAll0, h.str]
theorem can_runs : ∀ {rs : List Run}, (∀ r ∈ rs, KindOk r.1) → PyData.canLayAll0 (rs.map dRun) = true
  | [], _ => by simp [PyData.canLayAll0]
  | r :: t, h => by
    rw [List.map_cons, PyData.canLayAll0, can_run (h r (List.mem_cons_self ..)), can_runs fun x hx => h x (List.mem_cons_of_mem _ hx)]
    rfl
theorem depth_run (r : Run) : (dRun r).depth ≤ 2 := by
  simp [dRun, PyData.depth, PyData.depthAll]
theorem depth_runs : ∀ (rs : List Run), PyData.depthAll (rs.map dRun) ≤ 2
  | [] => by simp [PyData.depthAll]
  | r :: t => by
    rw [List.map_cons, PyData.depthAll]
    exact Nat.max_le.mpr ⟨depth_run r, depth_runs t⟩
theorem shaped_runs {rs : List Run} (h : ∀ r ∈ rs, KindOk r.1) : SeqAt.shaped (.list (rs.map dRun)) = true := by
  unfold SeqAt.shaped
  rw [PyData.canLay0, can_runs h, PyData.depth]
  have := depth_runs rs
  exact decide_eq_true (by omega)
theorem shaped_run {r : Run} (h : KindOk r.1) : SeqAt.shaped (dRun r) = true := by
  unfold SeqAt.shaped
  rw [can_run h]
  have := depth_run r
  exact decide_eq_true (by omega)
theorem shaped_nil : SeqAt.shaped (.list []) = true := by decide
theorem eqv_nil (rs : List Run) : PyData.eqv (.list (rs.map dRun)) (.list []) = rs.isEmpty := by
  cases rs with
  | nil => simp [PyData.eqv, PyData.eqvAll]
  | cons r t => simp [PyData.eqv, PyData.eqvAll]
theorem sb {sp : Addr} {H H' : Hp} (h : Same H H') : But sp H H' := fun b o _ e => h b o e
theorem But.free {sp : Addr} {H H' : Hp} (b : But sp H H') (z : Spr H' sp) {p : Addr} (h : H' p = none) : H p = none := by
  by_cases e : p = sp
  · subst e
    obtain ⟨_, _, _, h1, _⟩ := z
    rw [h1] at h
    cases h
  · cases q : H p with
    | none => rfl
    | some o =>
      rw [b p o e q] at h
      cases h
theorem Spr.ne {sp p : Addr} {H : Hp} (z : Spr H sp) (h : H p = none) : p ≠ sp := by
  obtain ⟨_, _, _, h1, _⟩ := z
  exact fun e => by rw [e, h1] at h; cases h
instance (s : Str) : Decidable (KindOk s) := by
  unfold KindOk
  infer_instance
section
variable {P : Program} {w : World} {K : PySem.W.Frag} {mg : Str → Option Value} {base : Heap}
end
end UP

set_option Elab.async false
set_option linter.all false
set_option maxRecDepth 100000
set_option maxHeartbeats 4000000
namespace UP
open PySem PySem.Spec PyProof.Rows L2
theorem pe_bmK {X : Cx} {K : PySem.W.Frag} {e : Expr} {c : String} {r : V → List V → Hp → VK → Prop} {to : TE} {t : TA} (h : X.K = K) (p : PE X e (tBM X.K c r to t)) : PE X e (tBM K c r to t) := h ▸ p
theorem if_by {c : TT} {t u : TS} {D : Ends} {σ : L2.St} {H : Hp} (R : Bool → Hp → Prop) (h : ∀ Q' : Bool → Hp → Prop, (∀ b H', R b H' → Q' b H') → c σ H Q') (ht : ∀ H', R true H' → t D σ H') (hu : ∀ H', R false H' → u D σ H') : tIfS c t u D σ H := by
  refine h _ fun b H' r => ?_
  cases b with
  | true => exact iteT (ht H' r)
  | false => exact iteF (hu H' r)
theorem erase_map {α β : Type} (f : α → β) : ∀ (l : List α) (i : Nat), (l.map f).eraseIdx i = (l.eraseIdx i).map f
  | [], _ => rfl
  | x :: t, 0 => rfl
  | x :: t, i + 1 => by
    simp only [List.map_cons, List.eraseIdx_cons_succ]
    rw [erase_map f t i]
def eight : List Str := ["a", "b", "c", "ab", "zz", "abcdefgh", "aa", "z"]
theorem eight_ok : ∀ s ∈ eight, KindOk s := by decide +kernel
theorem alt_snoc {l : List Run} {x : Run} (h : Alt l) (k : ∀ y, l[l.length - 1]? = some y → y.1 ≠ x.1) : Alt (l ++ [x]) := by
  intro i a b ha hb
  by_cases h1 : i + 1 < l.length
  · rw [List.getElem?_append_left (by omega)] at ha
    rw [List.getElem?_append_left h1] at hb
    exact h i a b ha hb
  · by_cases h2 : i + 1 = l.length
    · rw [List.getElem?_append_left (by omega)] at ha
      rw [List.getElem?_append_right (by omega), h2, Nat.sub_self] at hb
      cases hb
      rw [show i = l.length - 1 by omega] at ha
      exact k a ha
    · rw [List.getElem?_append_right (by omega)] at hb
      rw [List.getElem?_eq_none (by simp; omega)] at hb
      cases hb
theorem pow62 {x : Int} (h0 : 0 ≤ x) (h1 : x ≤ 1000000) : -(2 ^ 62) ≤ x ∧ x < 2 ^ 62 := by omega
theorem wide8 {m : Int} (h0 : 0 ≤ m) (h1 : m ≤ 1000000000000000000000000000000000000000000000000000000000000) : m.natAbs < 2 ^ 8000 :=
  Nat.lt_of_lt_of_le (show m.natAbs < 2 ^ 256 by omega) (Nat.pow_le_pow_right (by decide) (by decide))
section
variable {P : Program} {w : World} {K : PySem.W.Frag} {mg : Str → Option Value} {base : Heap}
end
end UP

set_option Elab.async false
set_option linter.all false
set_option maxRecDepth 100000
set_option maxHeartbeats 4000000
namespace UP
open PySem PySem.Spec PyProof.Rows L2
def scR (t : Int) (rs : List Run) : List Run := rs.map fun r => (r.1, r.2 * t)
def toldR (ws : List Run) : Option Run := match ws with
  | [] => none
  | r :: _ => some (r.1, (ws.length : Int))
def repR (k : Str) (n : Int) : Option Run := if n = 0 then none else some (k, n)
theorem repR_zero (k : Str) : repR k 0 = none := if_pos rfl
theorem repR_pos {k : Str} {n : Int} (h : 0 < n) : repR k n = some (k, n) := if_neg (by omega)
def PosO (st : Option Run) : Prop := ∀ r, st = some r → 1 ≤ r.2
theorem stepR_pos {st : Option Run} {k : Str} {c : Int} (h : PosO st) (hc : 1 ≤ c) : PosO (stepR st k c) := by
  intro r e
  cases st with
  | none =>
    cases e
    exact hc
  | some x =>
    have hx := h x rfl
    have e : (if x.1 = k then some (k, x.2 + c) else if 0 < x.2 - c then some (x.1, x.2 - c) else if x.2 - c = 0 then none else some (k, -(x.2 - c))) = some r := e
    by_cases h1 : x.1 = k
    · rw [if_pos h1] at e
      cases e
      show 1 ≤ x.2 + c
      omega
    · rw [if_neg h1] at e
      by_cases h2 : 0 < x.2 - c
      · rw [if_pos h2] at e
        cases e
        show 1 ≤ x.2 - c
        omega
      · rw [if_neg h2] at e
        by_cases h3 : x.2 - c = 0
        · rw [if_pos h3] at e
          cases e
        · rw [if_neg h3] at e
          cases e
          show 1 ≤ -(x.2 - c)
          omega
theorem stR_cons (r : Run) (l : List Run) (st : Option Run) : stR (r :: l) st = stR l (stepR st r.1 r.2) := rfl
theorem stR_pos : ∀ {rs : List Run} {st : Option Run}, PosO st → (∀ r ∈ rs, 1 ≤ r.2) → PosO (stR rs st)
  | [], _, h, _ => h
  | r :: t, st, h, k => by
    rw [stR_cons]
    exact stR_pos (stepR_pos h (k r (List.mem_cons_self ..))) fun x hx => k x (List.mem_cons_of_mem _ hx)
theorem StOk.pos {st : Option Run} (h : StOk st) : PosO st := fun r e => (h r e).2
section
variable {P : Program} {w : World} {K : PySem.W.Frag} {mg : Str → Option Value} {base : Heap}
end
end UP

set_option Elab.async false
set_option linter.all false
set_option maxRecDepth 100000
set_option maxHeartbeats 4000000
namespace UP
open PySem PySem.Spec PyProof.Rows L2
/-! ### plain data, by depth -/
def Dsc (v : V) (d : PyData) : Prop := (v = .non ∧ d = .none) ∨ (∃ b, v = .bl b ∧ d = .bool b) ∨ (∃ i, v = .int i ∧ d = .int i) ∨ ∃ s, v = .str s ∧ d = .str s
def Dt (H : Hp) : Nat → V → PyData → Prop
  | 0, v, d => Dsc v d
  | n + 1, v, d => Dsc v d ∨ (∃ a xs ds, v = .ref a ∧ H a = some (.lst xs) ∧ d = .list ds ∧ Paired (Dt H n) xs ds ∧ ds.length ≤ 100000) ∨ ∃ a xs ds, v = .ref a ∧ H a = some (.tup xs) ∧ d = .tuple ds ∧ Paired (Dt H n) xs ds ∧ ds.length ≤ 100000
theorem Dt.same {H H' : Hp} (s : Same H H') : ∀ {n : Nat} {v : V} {d : PyData}, Dt H n v d → Dt H' n v d
  | 0, _, _, h => h
  | n + 1, v, d, h => by
    rcases h with h | ⟨a, xs, ds, e, h, e2, p, l⟩ | ⟨a, xs, ds, e, h, e2, p, l⟩
    · exact .inl h
    · exact .inr (.inl ⟨a, xs, ds, e, s _ _ h, e2, Paired.imp (fun _ _ z => Dt.same s z) p, l⟩)
    · exact .inr (.inr ⟨a, xs, ds, e, s _ _ h, e2, Paired.imp (fun _ _ z => Dt.same s z) p, l⟩)
theorem dsc_ref {a : Addr} {d : PyData} (h : Dsc (.ref a) d) : False := by
  rcases h with ⟨h, _⟩ | ⟨_, h, _⟩ | ⟨_, h, _⟩ | ⟨_, h, _⟩ <;> cases h
theorem dsc_lst {v : V} {ds : List PyData} (h : Dsc v (.list ds)) : False := by
  rcases h with ⟨_, h⟩ | ⟨_, _, h⟩ | ⟨_, _, h⟩ | ⟨_, _, h⟩ <;> cases h
theorem dsc_tup {v : V} {ds : List PyData} (h : Dsc v (.tuple ds)) : False := by
  rcases h with ⟨_, h⟩ | ⟨_, _, h⟩ | ⟨_, _, h⟩ | ⟨_, _, h⟩ <;> cases h
theorem dsc_one {v v' : V} {d : PyData} (h : Dsc v d) (h' : Dsc v' d) : v = v' := by
  rcases h with ⟨e, z⟩ | ⟨x, e, z⟩ | ⟨x, e, z⟩ | ⟨x, e, z⟩ <;> subst z <;> rcases h' with ⟨e', z⟩ | ⟨y, e', z⟩ | ⟨y, e', z⟩ | ⟨y, e', z⟩ <;> cases z <;> rw [e, e']
theorem kit_no {K : PySem.W.Frag} {c : String} (h1 : kitB c "list" = some false) (h2 : kitB c "tuple" = some false) : PySem.W.kitAny K (.type c) [.type "list", .type "tuple"] = some false :=
  kitAny_cons (b := false) (kit_ty h1) (fun _ => kitAny_cons (b := false) (kit_ty h2) (fun _ => rfl) (fun z => nomatch z)) (fun z => nomatch z)
theorem ixL {K : PySem.W.Frag} {x y : V} {H : Hp} {Q : VK} (h : rIxL K x y H Q) : rIx K x y H Q := .inl h
theorem ixT {K : PySem.W.Frag} {x y : V} {H : Hp} {Q : VK} (h : rIxT K x y H Q) : rIx K x y H Q := .inr (.inl h)
section
variable {P : Program} {w : World} {K : PySem.W.Frag} {mg : Str → Option Value} {base : Heap}
end
end UP

set_option Elab.async false
set_option linter.all false
set_option maxRecDepth 100000
set_option maxHeartbeats 4000000
namespace UP
open PySem PySem.Spec PyProof.Rows L2
/-! ### a walk over one object that stays, whatever else is changed -/
structure WkA (J : It) (H : Hp) (a : Addr) (xs : List V) : Prop where
  go : ∀ i H', H' a = H a → i < xs.length → J.go i H'
  stop : ∀ H', H' a = H a → J.stop xs.length H'
  yld : ∀ i x H' H'', H' a = H a → J.yld i H' x H'' → H'' = H' ∧ xs[i]? = some x
def iSeqA (i : Nat) : TI := fun σ H R => ∃ a xs, σ[i]? = some (some (.ref a)) ∧ Sq2 H a xs ∧ ∀ J, WkA J H a xs → R J H
section
variable {X : Cx}
theorem wka_list {K : PySem.W.Frag} {H : Hp} {a : Addr} {xs : List V} (h : H a = some (.lst xs)) : WkA (Itl K a) H a xs :=
  ⟨fun i H' e hi => ⟨xs, xs[i], .of (e.trans h), List.getElem?_eq_getElem hi⟩, fun H' e => ⟨xs, .of (e.trans h), Nat.le_refl _⟩, fun i x H' H'' e y => ⟨y.1, y.2 xs (.of (e.trans h))⟩⟩
theorem wka_tup {K : PySem.W.Frag} {H : Hp} {a : Addr} {xs : List V} (h : H a = some (.tup xs)) : WkA (Itt K a) H a xs :=
  ⟨fun i H' e hi => ⟨xs, xs[i], .of (e.trans h), List.getElem?_eq_getElem hi⟩, fun H' e => ⟨xs, .of (e.trans h), Nat.le_refl _⟩, fun i x H' H'' e y => ⟨y.1, y.2 xs (.of (e.trans h))⟩⟩
theorem pi_seqA (i : Nat) {x : Str} {pos : Pos} {tg : Expr} (hN : X.N[i]? = some x := by rfl) (hv : Vis X.env.scope x := by first | exact Or.inl rfl | exact Or.inr (Or.inl rfl) | exact Or.inr (Or.inr rfl)) (hd : (x == ("__debug__" : Str)) = false := by decide)
    (hc : (x == ("__classdict__" : Str)) = false := by decide) : PI X tg (.Name x pos) (iSeqA i) := by
  refine ⟨fun pins s σ H R I hw => ?_⟩
  obtain ⟨a, xs, e, h, k⟩ := hw
  rcases h with h | h
  · exact (pi_list (pe_var hN hv hd hc)).run pins s σ H R I ⟨_, e, a, rfl, ⟨xs, .of h⟩, k _ (wka_list h)⟩
  · exact (pi_tup (pe_var hN hv hd hc)).run pins s σ H R I ⟨_, e, a, rfl, ⟨xs, .of h⟩, k _ (wka_tup h)⟩
end
theorem lc_wka {J : It} {H0 H1 : Hp} {a : Addr} {xs : List V} {g : TG} {tt : TT} {te : TE} {vs : List Nat} {σ : L2.St} {D : Addr} {Qd : Hp → Prop} (wk : WkA J H0 a xs) (Pv : Nat → Hp → Prop) (hsm : ∀ i H, Pv i H → H a = H0 a) (h0 : Pv 0 (upd H1 D (.lst [])))
    (hs : ∀ i x H, xs[i]? = some x → Pv i H → g x (wipe σ vs) H fun σ2 H2 => wipe σ2 vs = wipe σ vs ∧ tt σ2 H2 fun b H3 =>
      if b = true then te σ2 H3 fun y H4 => ∃ acc, H4 D = some (.lst acc) ∧ acc.length < sizeLine ∧ Pv (i + 1) (upd H4 D (.lst (acc ++ [y]))) else Pv (i + 1) H3) (hd : ∀ H, Pv xs.length H → Qd H) :
    ∃ W : Nat → Nat → Hp → Prop, (∃ m, W 0 m (upd H1 D (.lst []))) ∧ ∀ i m H, W i m H →
      (J.stop i H ∧ Qd H) ∨ (J.go i H ∧ ∃ Nx : Hp → Prop, (∀ H', Nx H' → ∃ m', m' < m ∧ W (i + 1) m' H') ∧ ∀ x H', J.yld i H x H' → g x (wipe σ vs) H' fun σ2 H2 => wipe σ2 vs = wipe σ vs ∧ tt σ2 H2 fun b H3 =>
        if b = true then te σ2 H3 fun y H4 => ∃ acc, H4 D = some (.lst acc) ∧ acc.length < sizeLine ∧ Nx (upd H4 D (.lst (acc ++ [y]))) else Nx H3) := by
  refine lc_gen Pv h0 (fun i H hi p => wk.go i H (hsm i H p) hi) (fun H p => wk.stop H (hsm _ H p)) (fun i x H H' hi p y => ?_) hd
  obtain ⟨e, ex⟩ := wk.yld i x H H' (hsm i H p) y
  subst e
  exact hs i x _ ex p
theorem for_gen {J : It} {n : Nat} {H : Hp} {g : TG} {tb : TS} {D : Ends} {σ : L2.St} (Pv : Nat → L2.St → Hp → Prop) (h0 : Pv 0 σ H) (hg : ∀ i σ H, i < n → Pv i σ H → J.go i H) (hst : ∀ σ H, Pv n σ H → J.stop n H)
    (hs : ∀ i x σ H H', i < n → Pv i σ H → J.yld i H x H' → g x σ H' fun σ2 H2 => tb { D with nx := Pv (i + 1), ct := Pv (i + 1), bk := D.nx } σ2 H2) (hd : ∀ σ H, Pv n σ H → D.nx σ H) :
    ∃ W : Nat → Nat → L2.St → Hp → Prop, (∃ m, W 0 m σ H) ∧ ∀ i m σ H, W i m σ H →
      (J.stop i H ∧ D.nx σ H) ∨ (J.go i H ∧ ∃ N : L2.St → Hp → Prop, (∀ σ' H', N σ' H' → ∃ m', m' < m ∧ W (i + 1) m' σ' H') ∧ ∀ x H', J.yld i H x H' → g x σ H' fun σ2 H2 => tb { D with nx := N, ct := N, bk := D.nx } σ2 H2) := by
  refine ⟨fun i m σ H => m = n - i ∧ i ≤ n ∧ Pv i σ H, ⟨n, by omega, Nat.zero_le _, h0⟩, ?_⟩
  rintro i m σ H ⟨rfl, hi, p⟩
  by_cases hlt : i < n
  · exact Or.inr ⟨hg i σ H hlt p, Pv (i + 1), fun σ' H' p' => ⟨n - (i + 1), by omega, rfl, hlt, p'⟩, fun x H' y => hs i x σ H H' hlt p y⟩
  · have e : i = n := by omega
    subst e
    exact Or.inl ⟨hst σ H p, hd σ H p⟩
theorem for_wka {J : It} {H0 H : Hp} {a : Addr} {xs : List V} {g : TG} {tb : TS} {D : Ends} {σ : L2.St} (wk : WkA J H0 a xs) (Pv : Nat → L2.St → Hp → Prop) (hsm : ∀ i σ H, Pv i σ H → H a = H0 a) (h0 : Pv 0 σ H)
    (hs : ∀ i x σ H, xs[i]? = some x → Pv i σ H → g x σ H fun σ2 H2 => tb { D with nx := Pv (i + 1), ct := Pv (i + 1), bk := D.nx } σ2 H2) (hd : ∀ σ H, Pv xs.length σ H → D.nx σ H) :
    ∃ W : Nat → Nat → L2.St → Hp → Prop, (∃ m, W 0 m σ H) ∧ ∀ i m σ H, W i m σ H →
      (J.stop i H ∧ D.nx σ H) ∨ (J.go i H ∧ ∃ N : L2.St → Hp → Prop, (∀ σ' H', N σ' H' → ∃ m', m' < m ∧ W (i + 1) m' σ' H') ∧ ∀ x H', J.yld i H x H' → g x σ H' fun σ2 H2 => tb { D with nx := N, ct := N, bk := D.nx } σ2 H2) := by
  refine for_gen Pv h0 (fun i σ H hi p => wk.go i H (hsm i σ H p) hi) (fun σ H p => wk.stop H (hsm _ σ H p)) (fun i x σ H H' hi p y => ?_) hd
  obtain ⟨e, ex⟩ := wk.yld i x H H' (hsm i σ H p) y
  subst e
  exact hs i x σ _ ex p
theorem Sq2.eq {H H' : Hp} {a : Addr} {xs : List V} (h : Sq2 H a xs) (s : Same H H') : H' a = H a := h.elim (fun z => (s _ _ z).trans z.symm) (fun z => (s _ _ z).trans z.symm)
/-! ### data without its dress -/
def Sim (N : Addr → Prop) (H : Hp) : Nat → V → PyData → Prop
  | 0, v, d => Dsc v d
  | n + 1, v, d => Dsc v d ∨ ∃ a xs ds, v = .ref a ∧ N a ∧ Sq2 H a xs ∧ d = .list ds ∧ Paired (Sim N H n) xs ds ∧ ds.length ≤ 1000
theorem Sim.keep {N N' : Addr → Prop} {H H' : Hp} (hn : ∀ a, N a → N' a) (hk : ∀ a o, N a → H a = some o → H' a = some o) : ∀ {n : Nat} {v : V} {d : PyData}, Sim N H n v d → Sim N' H' n v d
  | 0, _, _, h => h
  | n + 1, v, d, h => by
    rcases h with h | ⟨a, xs, ds, e, na, hx, e2, p, l⟩
    · exact .inl h
    · exact .inr ⟨a, xs, ds, e, hn a na, hx.elim (fun z => .inl (hk _ _ na z)) (fun z => .inr (hk _ _ na z)), e2, Paired.imp (fun _ _ z => Sim.keep hn hk z) p, l⟩
theorem Sim.dsc {N : Addr → Prop} {H : Hp} {v : V} {d : PyData} : ∀ {n : Nat}, Dsc v d → Sim N H n v d
  | 0, h => h
  | n + 1, h => .inl h
section
variable {P : Program} {w : World} {K : PySem.W.Frag} {mg : Str → Option Value} {base : Heap}
end
end UP

set_option Elab.async false
set_option linter.all false
set_option maxRecDepth 100000
set_option maxHeartbeats 4000000
namespace UP
open PySem PySem.Spec PyProof.Rows L2
/-! ### waiting items one by one -/
def plS (ws : List Run) (k : Str) (n : Nat) : List Run := match ws with
  | [] => [(k, (n : Int))]
  | r :: t => if r.1 = k then (r :: t) ++ [(k, (n : Int))] else t
def plP (ws : List Run) (k : Str) (n : Nat) : List (Int × Int) := match ws with
  | [] => []
  | r :: _ => if r.1 = k then [] else [(r.2, (n : Int))]
def plA (ws : List Run) (n : Nat) : List Str → List Run
  | [] => ws
  | k :: t => plA (plS ws k n) (n + 1) t
def psR (ws : List Run) (n : Nat) : List Str → List (Int × Int)
  | [] => []
  | k :: t => plP ws k n ++ psR (plS ws k n) (n + 1) t
theorem plA_snoc : ∀ (l : List Str) (ws : List Run) (n : Nat) (k : Str), plA ws n (l ++ [k]) = plS (plA ws n l) k (n + l.length)
  | [], ws, n, k => rfl
  | x :: t, ws, n, k => by
    show plA (plS ws x n) (n + 1) (t ++ [k]) = plS (plA (plS ws x n) (n + 1) t) k (n + (x :: t).length)
    rw [plA_snoc t, List.length_cons, show n + 1 + t.length = n + (t.length + 1) by omega]
theorem psR_snoc : ∀ (l : List Str) (ws : List Run) (n : Nat) (k : Str), psR ws n (l ++ [k]) = psR ws n l ++ plP (plA ws n l) k (n + l.length)
  | [], ws, n, k => by
    show plP ws k n ++ [] = [] ++ plP ws k (n + 0)
    rw [List.append_nil, List.nil_append, Nat.add_zero]
  | x :: t, ws, n, k => by
    show plP ws x n ++ psR (plS ws x n) (n + 1) (t ++ [k]) = (plP ws x n ++ psR (plS ws x n) (n + 1) t) ++ plP (plA (plS ws x n) (n + 1) t) k (n + (x :: t).length)
    rw [psR_snoc t, List.length_cons, List.append_assoc, show n + 1 + t.length = n + (t.length + 1) by omega]
def plMs (ws : List Run) (ks : List Str) : List (List Run) := (List.range (ks.length + 1)).map fun m => plA ws 0 (ks.take m)
theorem plMs_snoc (ws : List Run) (l : List Str) (k : Str) : plMs ws (l ++ [k]) = plMs ws l ++ [plA ws 0 (l ++ [k])] := by
  unfold plMs
  rw [List.length_append, List.length_cons, List.length_nil, Nat.zero_add, List.range_succ, List.map_append]
  congr 1
  · refine List.map_congr_left fun m hm => ?_
    have : m ≤ l.length := by
      have := List.mem_range.mp hm
      omega
    rw [List.take_append_of_le_length this]
  · rw [List.map_singleton, List.take_of_length_le (by rw [List.length_append]; exact Nat.le_refl _)]
theorem plMs_nil (ws : List Run) : plMs ws [] = [ws] := rfl
theorem plMs_len (ws : List Run) (l : List Str) : (plMs ws l).length = l.length + 1 := by
  unfold plMs
  rw [List.length_map, List.length_range]
theorem plS_len (ws : List Run) (k : Str) (n : Nat) : (plS ws k n).length ≤ ws.length + 1 := by
  cases ws with
  | nil => exact Nat.le_refl _
  | cons r t =>
    show (if r.1 = k then (r :: t) ++ [(k, (n : Int))] else t).length ≤ _
    split
    · rw [List.length_append]
      exact Nat.le_refl _
    · rw [List.length_cons]
      omega
theorem plA_len : ∀ (l : List Str) (ws : List Run) (n : Nat), (plA ws n l).length ≤ ws.length + l.length
  | [], ws, n => Nat.le_refl _
  | k :: t, ws, n => by
    have h1 := plA_len t (plS ws k n) (n + 1)
    have h2 := plS_len ws k n
    show (plA (plS ws k n) (n + 1) t).length ≤ _
    rw [List.length_cons]
    omega
theorem plP_len (ws : List Run) (k : Str) (n : Nat) : (plP ws k n).length ≤ 1 := by
  cases ws with
  | nil => exact Nat.zero_le _
  | cons r t =>
    show (if r.1 = k then [] else [(r.2, (n : Int))]).length ≤ 1
    split <;> simp
theorem psR_len : ∀ (l : List Str) (ws : List Run) (n : Nat), (psR ws n l).length ≤ l.length
  | [], ws, n => Nat.le_refl _
  | k :: t, ws, n => by
    have h1 := psR_len t (plS ws k n) (n + 1)
    have h2 := plP_len ws k n
    show (plP ws k n ++ psR (plS ws k n) (n + 1) t).length ≤ _
    rw [List.length_append, List.length_cons]
    omega
theorem plS_kinds {ws : List Run} {k : Str} {n : Nat} (h : ∀ r ∈ ws, KindOk r.1) (hk : KindOk k) : ∀ r ∈ plS ws k n, KindOk r.1 := by
  intro r hr
  cases ws with
  | nil =>
    rw [List.mem_singleton.mp (show r ∈ [(k, (n : Int))] from hr)]
    exact hk
  | cons x t =>
    have hr : r ∈ (if x.1 = k then (x :: t) ++ [(k, (n : Int))] else t) := hr
    by_cases e : x.1 = k
    · rw [if_pos e] at hr
      rcases List.mem_append.mp hr with z | z
      · exact h r z
      · rw [List.mem_singleton.mp z]
        exact hk
    · rw [if_neg e] at hr
      exact h r (List.mem_cons_of_mem _ hr)
theorem plA_kinds : ∀ {l : List Str} {ws : List Run} {n : Nat}, (∀ r ∈ ws, KindOk r.1) → (∀ k ∈ l, KindOk k) → ∀ r ∈ plA ws n l, KindOk r.1
  | [], _, _, h, _ => h
  | k :: t, ws, n, h, hl => plA_kinds (l := t) (plS_kinds h (hl k (List.mem_cons_self ..))) fun x hx => hl x (List.mem_cons_of_mem _ hx)
def w0R : Option Run → List Run
  | none => []
  | some r => List.replicate r.2.toNat (r.1, -1)
def itR (rs : List Run) : List Str := rs.flatMap fun r => List.replicate r.2.toNat r.1
theorem itR_snoc (l : List Run) (r : Run) : itR (l ++ [r]) = itR l ++ List.replicate r.2.toNat r.1 := by
  unfold itR
  rw [List.flatMap_append]
  simp
def PV (H : Hp) (v : V) (p : Int × Int) : Prop := ∃ t, v = .ref t ∧ H t = some (.tup [.int p.1, .int p.2])
theorem PV.same {H H' : Hp} {v : V} {p : Int × Int} (s : Same H H') (h : PV H v p) : PV H' v p := by
  obtain ⟨t, e, h⟩ := h
  exact ⟨t, e, s _ _ h⟩
theorem PV.grow {H : Hp} {D : Addr} {acc acc' : List V} {v : V} {p : Int × Int} (hD : H D = some (.lst acc)) (h : PV H v p) : PV (upd H D (.lst acc')) v p := by
  obtain ⟨t, e, h⟩ := h
  refine ⟨t, e, ?_⟩
  rw [upd_ne (ne_of h hD (by intro q; cases q))]
  exact h
theorem Runs.grow {H : Hp} {D a : Addr} {acc acc' : List V} {ws : List Run} (hD : H D = some (.lst acc)) (n : a ≠ D) (h : Runs H a ws) : Runs (upd H D (.lst acc')) a ws := by
  obtain ⟨xs, hx, hp⟩ := h
  refine ⟨xs, ?_, prs_grow hD hp⟩
  rw [upd_ne n]
  exact hx
/-- a list of runs apart from two others -/
def WL (H : Hp) (M N : Addr) (v : V) (ws : List Run) : Prop := ∃ a, v = .ref a ∧ a ≠ M ∧ a ≠ N ∧ Runs H a ws
theorem WL.same {H H' : Hp} {M N : Addr} {v : V} {ws : List Run} (s : Same H H') (h : WL H M N v ws) : WL H' M N v ws := by
  obtain ⟨a, e, n1, n2, h⟩ := h
  exact ⟨a, e, n1, n2, h.same s⟩
/-- what the play keeps -/
structure Pl (H0 H : Hp) (W M N : Addr) (ws0 : List Run) (ks ls : List Str) : Prop where
  sm : Same H0 H
  wm : W ≠ M
  wn : W ≠ N
  wr : Runs H W (plA ws0 0 ls)
  ms : ∃ xs, H M = some (.lst xs) ∧ Paired (WL H M N) xs (plMs ws0 ks)
  ps : ∃ ys, H N = some (.lst ys) ∧ Paired (PV H) ys (psR ws0 0 ls)
theorem flat_one {α : Type} (x : α) : ∀ n : Nat, (List.replicate n [x]).flatten = List.replicate n x
  | 0 => rfl
  | n + 1 => by
    rw [List.replicate_succ, List.flatten_cons, flat_one x n]
    rfl
theorem paired_rep {α β : Type} {F : α → β → Prop} {a : α} {b : β} (h : F a b) : ∀ n : Nat, Paired F (List.replicate n a) (List.replicate n b)
  | 0 => .nil
  | n + 1 => .cons h (paired_rep h n)
theorem len_items {rs : List Run} (h : ∀ r ∈ rs, 1 ≤ r.2 ∧ r.2 ≤ 1000) : (itR rs).length ≤ 1000 * rs.length := by
  induction rs with
  | nil => exact Nat.le_refl _
  | cons r t ih =>
    have e : itR (r :: t) = List.replicate r.2.toNat r.1 ++ itR t := rfl
    have h1 := h r (List.mem_cons_self ..)
    have h2 := ih fun x hx => h x (List.mem_cons_of_mem _ hx)
    rw [e, List.length_append, List.length_replicate, List.length_cons]
    omega
end UP

set_option Elab.async false
set_option linter.all false
set_option maxRecDepth 100000
set_option maxHeartbeats 4000000
namespace UP
open PySem PySem.Spec PyProof.Rows L2
section
variable {P : Program} {w : World} {K : PySem.W.Frag} {mg : Str → Option Value} {base : Heap}
end
end UP

set_option Elab.async false
set_option linter.all false
set_option maxRecDepth 100000
set_option maxHeartbeats 4000000
namespace UP
open PySem PySem.Spec PyProof.Rows L2
/-! ### one arrival after the other -/
def stI (ks : List Str) (st : Option Run) : Option Run := ks.foldl (fun s k => stepR s k 1) st
theorem stI_app (l m : List Str) (st : Option Run) : stI (l ++ m) st = stI m (stI l st) := List.foldl_append ..
theorem step_same {r : Run} {k : Str} {c : Int} (h : r.1 = k) : stepR (some r) k c = some (k, r.2 + c) := if_pos h
theorem step_other {r : Run} {k : Str} {c : Int} (h : r.1 ≠ k) : stepR (some r) k c = if 0 < r.2 - c then some (r.1, r.2 - c) else if r.2 - c = 0 then none else some (k, -(r.2 - c)) := if_neg h
theorem step_step {s : Option Run} {k : Str} {c : Int} (h : PosO s) (hc : 1 ≤ c) : stepR (stepR s k 1) k c = stepR s k (1 + c) := by
  cases s with
  | none => exact step_same (r := (k, 1)) rfl
  | some r =>
    have r1 := h r rfl
    by_cases e : r.1 = k
    · rw [step_same e, step_same e, step_same (r := (k, r.2 + 1)) rfl]
      show some (k, r.2 + 1 + c) = _
      rw [Int.add_assoc]
    · rw [step_other e, step_other e]
      by_cases h1 : 0 < r.2 - 1
      · rw [if_pos h1, step_other (r := (r.1, r.2 - 1)) e]
        show (if 0 < r.2 - 1 - c then some (r.1, r.2 - 1 - c) else if r.2 - 1 - c = 0 then none else some (k, -(r.2 - 1 - c))) = _
        rw [show r.2 - 1 - c = r.2 - (1 + c) by omega]
      · have e2 : r.2 - 1 = 0 := by omega
        rw [if_neg h1, if_pos e2, if_neg (by omega), if_neg (by omega)]
        show some (k, c) = _
        rw [show -(r.2 - (1 + c)) = c by omega]
theorem it_step : ∀ (n : Nat) (s : Option Run) (k : Str), PosO s → stI (List.replicate (n + 1) k) s = stepR s k ((n : Int) + 1)
  | 0, s, k, _ => rfl
  | n + 1, s, k, h => by
    show stI (List.replicate (n + 1) k) (stepR s k 1) = _
    rw [it_step n _ k (stepR_pos h (by decide)), step_step h (by omega)]
    congr 1
    omega
theorem st_items : ∀ (rs : List Run) (st : Option Run), PosO st → (∀ r ∈ rs, 1 ≤ r.2) → stR rs st = stI (itR rs) st
  | [], st, _, _ => rfl
  | r :: t, st, h, k => by
    have c1 := k r (List.mem_cons_self ..)
    have e : itR (r :: t) = List.replicate r.2.toNat r.1 ++ itR t := rfl
    obtain ⟨n, hn⟩ : ∃ n : Nat, r.2.toNat = n + 1 := ⟨r.2.toNat - 1, by omega⟩
    rw [e, stI_app, hn, it_step n _ _ h, stR_cons, show ((n : Int) + 1) = r.2 by omega]
    exact st_items t _ (stepR_pos h c1) fun x hx => k x (List.mem_cons_of_mem _ hx)
theorem take_app {α : Type} : ∀ (l m : List α) (n : Nat), (l ++ m).take n = l.take n ++ m.take (n - l.length)
  | [], m, n => by
    rw [List.nil_append, List.take_nil, List.nil_append, List.length_nil, Nat.sub_zero]
  | x :: t, m, 0 => by
    rw [List.take_zero, List.take_zero, Nat.zero_sub, List.take_zero]
    rfl
  | x :: t, m, n + 1 => by
    rw [List.cons_append, List.take_succ_cons, take_app t m n, List.take_succ_cons, List.length_cons, Nat.add_sub_add_right]
    rfl
theorem it_app (l m : List Run) : itR (l ++ m) = itR l ++ itR m := List.flatMap_append ..
theorem cut_items (e : Int) : ∀ (rs : List Run) (b : Int), 0 ≤ b → (∀ r ∈ rs, 1 ≤ r.2) → itR (cutR 0 e b rs) = (itR rs).take (e - b).toNat
  | [], b, _, _ => by
    show ([] : List Str) = ([] : List Str).take _
    rw [List.take_nil]
  | r :: t, b, hb, k => by
    have c1 := k r (List.mem_cons_self ..)
    have ih := cut_items e t (b + r.2) (by omega) fun x hx => k x (List.mem_cons_of_mem _ hx)
    have e1 : cutR 0 e b (r :: t) = pieceR b 0 e r ++ cutR 0 e (b + r.2) t := rfl
    have e2 : itR (r :: t) = List.replicate r.2.toNat r.1 ++ itR t := rfl
    rw [e1, it_app, ih, e2, take_app, List.length_replicate, List.take_replicate, show (e - (b + r.2)).toNat = (e - b).toNat - r.2.toNat by omega]
    congr 1
    have es : sizeR b 0 e r.2 = (if b + r.2 < e then b + r.2 else e) - b := by
      unfold sizeR
      by_cases h0 : b > 0
      · rw [if_pos h0]
      · rw [if_neg h0, show b = 0 by omega]
    by_cases hs : 0 < sizeR b 0 e r.2
    · rw [show pieceR b 0 e r = [(r.1, sizeR b 0 e r.2)] from if_pos hs]
      show List.replicate (sizeR b 0 e r.2).toNat r.1 ++ [] = _
      rw [List.append_nil]
      congr 1
      rw [es] at hs ⊢
      split <;> omega
    · rw [show pieceR b 0 e r = [] from if_neg hs]
      rw [es] at hs
      rw [show min (e - b).toNat r.2.toNat = 0 by split at hs <;> omega]
      rfl
theorem len_it : ∀ (rs : List Run), (∀ r ∈ rs, 1 ≤ r.2) → ((itR rs).length : Int) = lenR rs
  | [], _ => rfl
  | r :: t, k => by
    have c1 := k r (List.mem_cons_self ..)
    have ih := len_it t fun x hx => k x (List.mem_cons_of_mem _ hx)
    have e2 : itR (r :: t) = List.replicate r.2.toNat r.1 ++ itR t := rfl
    rw [e2, List.length_append, List.length_replicate, lenR_cons]
    omega
/-! ### what is told of waiting items -/
def Uni (ws : List Run) : Prop := ∀ x ∈ ws, ∀ y ∈ ws, x.1 = y.1
theorem uni_plS {ws : List Run} {k : Str} {n : Nat} (h : Uni ws) : Uni (plS ws k n) := by
  cases ws with
  | nil =>
    intro x hx y hy
    rw [List.mem_singleton.mp (show x ∈ [(k, (n : Int))] from hx), List.mem_singleton.mp (show y ∈ [(k, (n : Int))] from hy)]
  | cons r t =>
    by_cases e : r.1 = k
    · rw [show plS (r :: t) k n = (r :: t) ++ [(k, (n : Int))] from if_pos e]
      have all : ∀ x ∈ (r :: t) ++ [(k, (n : Int))], x.1 = k := by
        intro x hx
        rcases List.mem_append.mp hx with z | z
        · rw [h x z r (List.mem_cons_self ..)]
          exact e
        · rw [List.mem_singleton.mp z]
      intro x hx y hy
      rw [all x hx, all y hy]
    · rw [show plS (r :: t) k n = t from if_neg e]
      exact fun x hx y hy => h x (List.mem_cons_of_mem _ hx) y (List.mem_cons_of_mem _ hy)
theorem told_plS {ws : List Run} {k : Str} {n : Nat} (h : Uni ws) : toldR (plS ws k n) = stepR (toldR ws) k 1 := by
  cases ws with
  | nil => rfl
  | cons r t =>
    by_cases e : r.1 = k
    · rw [show plS (r :: t) k n = (r :: t) ++ [(k, (n : Int))] from if_pos e]
      show some (r.1, (((r :: t) ++ [(k, (n : Int))]).length : Int)) = stepR (some (r.1, ((r :: t).length : Int))) k 1
      rw [step_same (r := (r.1, ((r :: t).length : Int))) e, List.length_append, e]
      show some (k, (((r :: t).length + 1 : Nat) : Int)) = some (k, ((r :: t).length : Int) + 1)
      rw [Int.natCast_add]
      rfl
    · rw [show plS (r :: t) k n = t from if_neg e]
      show toldR t = stepR (some (r.1, ((r :: t).length : Int))) k 1
      rw [step_other (r := (r.1, ((r :: t).length : Int))) e]
      cases t with
      | nil => rfl
      | cons x u =>
        have ex : x.1 = r.1 := h x (List.mem_cons_of_mem _ (List.mem_cons_self ..)) r (List.mem_cons_self ..)
        show some (x.1, ((x :: u).length : Int)) = if 0 < ((r :: x :: u).length : Int) - 1 then some (r.1, ((r :: x :: u).length : Int) - 1) else _
        rw [List.length_cons, List.length_cons, List.length_cons, if_pos (by omega), ex]
        congr 2
        omega
theorem told_plA : ∀ (l : List Str) (ws : List Run) (n : Nat), Uni ws → toldR (plA ws n l) = stI l (toldR ws)
  | [], _, _, _ => rfl
  | k :: t, ws, n, h => by
    show toldR (plA (plS ws k n) (n + 1) t) = stI t (stepR (toldR ws) k 1)
    rw [told_plA t _ _ (uni_plS h), told_plS h]
theorem uni_w0 (st : Option Run) : Uni (w0R st) := by
  cases st with
  | none => intro x hx; cases hx
  | some r =>
    intro x hx y hy
    rw [List.eq_of_mem_replicate hx, List.eq_of_mem_replicate hy]
theorem told_w0 {st : Option Run} (h : PosO st) : toldR (w0R st) = st := by
  cases st with
  | none => rfl
  | some r =>
    have r1 := h r rfl
    obtain ⟨n, hn⟩ : ∃ n : Nat, r.2.toNat = n + 1 := ⟨r.2.toNat - 1, by omega⟩
    show toldR (List.replicate r.2.toNat (r.1, (-1 : Int))) = some r
    rw [hn, List.replicate_succ]
    show some (r.1, (((r.1, (-1 : Int)) :: List.replicate n (r.1, (-1 : Int))).length : Int)) = some r
    rw [List.length_cons, List.length_replicate, show ((n + 1 : Nat) : Int) = r.2 by omega]
/-! ### all counts multiplied -/
def scO (t : Int) (st : Option Run) : Option Run := st.map fun r => (r.1, r.2 * t)
theorem lt_sc {a b t : Int} (ht : 0 < t) : a * t < b * t ↔ a < b :=
  ⟨fun h => by
    by_cases z : a < b
    · exact z
    · have := Int.mul_le_mul_of_nonneg_right (show b ≤ a by omega) (Int.le_of_lt ht)
      omega, fun h => Int.mul_lt_mul_of_pos_right h ht⟩
theorem size_sc {b s e c t : Int} (ht : 0 < t) : sizeR (b * t) (s * t) (e * t) (c * t) = sizeR b s e c * t := by
  unfold sizeR
  rw [← Int.add_mul, Int.sub_mul]
  congr 1
  · by_cases h : b + c < e
    · rw [if_pos h, if_pos ((lt_sc ht).mpr h)]
    · rw [if_neg h, if_neg fun z => h ((lt_sc ht).mp z)]
  · by_cases h : b > s
    · rw [if_pos h, if_pos ((lt_sc ht).mpr h)]
    · rw [if_neg h, if_neg fun z => h ((lt_sc ht).mp z)]
theorem pos_sc {a t : Int} (ht : 0 < t) : 0 < a * t ↔ 0 < a := by
  have := lt_sc (a := 0) (b := a) ht
  rw [Int.zero_mul] at this
  exact this
theorem piece_sc {b s e t : Int} {r : Run} (ht : 0 < t) : pieceR (b * t) (s * t) (e * t) (r.1, r.2 * t) = scR t (pieceR b s e r) := by
  unfold pieceR
  show (if 0 < sizeR (b * t) (s * t) (e * t) (r.2 * t) then [(r.1, sizeR (b * t) (s * t) (e * t) (r.2 * t))] else []) = _
  rw [size_sc ht]
  by_cases h : 0 < sizeR b s e r.2
  · rw [if_pos h, if_pos ((pos_sc ht).mpr h)]
    rfl
  · rw [if_neg h, if_neg fun z => h ((pos_sc ht).mp z)]
    rfl
theorem cut_sc {s e t : Int} (ht : 0 < t) : ∀ (rs : List Run) (b : Int), cutR (s * t) (e * t) (b * t) (scR t rs) = scR t (cutR s e b rs)
  | [], _ => rfl
  | r :: u, b => by
    have ih := cut_sc (s := s) (e := e) ht u (b + r.2)
    show pieceR (b * t) (s * t) (e * t) (r.1, r.2 * t) ++ cutR (s * t) (e * t) (b * t + r.2 * t) (scR t u) = scR t (pieceR b s e r ++ cutR s e (b + r.2) u)
    rw [← Int.add_mul, ih, piece_sc ht]
    unfold scR
    rw [List.map_append]
theorem step_sc {st : Option Run} {k : Str} {c t : Int} (ht : 0 < t) : stepR (scO t st) k (c * t) = scO t (stepR st k c) := by
  cases st with
  | none => rfl
  | some r =>
    show stepR (some (r.1, r.2 * t)) k (c * t) = _
    by_cases e : r.1 = k
    · rw [step_same (r := (r.1, r.2 * t)) e, step_same e]
      show some (k, r.2 * t + c * t) = some (k, (r.2 + c) * t)
      rw [Int.add_mul]
    · rw [step_other (r := (r.1, r.2 * t)) e, step_other e]
      show (if 0 < r.2 * t - c * t then some (r.1, r.2 * t - c * t) else if r.2 * t - c * t = 0 then none else some (k, -(r.2 * t - c * t))) = _
      rw [← Int.sub_mul]
      by_cases h : 0 < r.2 - c
      · rw [if_pos h, if_pos ((pos_sc ht).mpr h)]
        rfl
      · rw [if_neg h, if_neg fun z => h ((pos_sc ht).mp z)]
        by_cases h2 : r.2 - c = 0
        · rw [if_pos h2, h2, Int.zero_mul, if_pos rfl]
          rfl
        · have h3 : (r.2 - c) * t ≠ 0 := Int.mul_ne_zero h2 (by omega)
          rw [if_neg h2, if_neg h3]
          show some (k, -((r.2 - c) * t)) = some (k, -(r.2 - c) * t)
          rw [Int.neg_mul]
theorem st_sc {t : Int} (ht : 0 < t) : ∀ (rs : List Run) (st : Option Run), stR (scR t rs) (scO t st) = scO t (stR rs st)
  | [], _ => rfl
  | r :: u, st => by
    show stR (scR t u) (stepR (scO t st) r.1 (r.2 * t)) = scO t (stR u (stepR st r.1 r.2))
    rw [step_sc ht, st_sc ht u]
theorem len_sc {t : Int} : ∀ (rs : List Run), lenR (scR t rs) = lenR rs * t
  | [] => by
    show (0 : Int) = 0 * t
    rw [Int.zero_mul]
  | r :: u => by
    show lenR ((r.1, r.2 * t) :: scR t u) = _
    rw [lenR_cons, lenR_cons, len_sc u, Int.add_mul]
/-- the multiplied state at a multiplied moment -/
theorem whole_sc {t : Int} {rs : List Run} {st : Option Run} {p : Nat} (ht : 0 < t) (h : PosO st) (k : ∀ r ∈ rs, 1 ≤ r.2) :
    stR (cutR 0 ((p : Int) * t) 0 (scR t rs)) (scO t st) = scO t (toldR (plA (w0R st) 0 ((itR rs).take p))) := by
  have e := cut_sc (s := 0) (e := (p : Int)) ht rs 0
  rw [Int.zero_mul] at e
  rw [e, st_sc ht, told_plA _ _ _ (uni_w0 st), told_w0 h, st_items _ _ h cutR_pos, cut_items _ _ _ (Int.le_refl _) k, Int.sub_zero, Int.toNat_natCast]
end UP

set_option Elab.async false
set_option linter.all false
set_option maxRecDepth 100000
set_option maxHeartbeats 4000000
namespace UP
open PySem PySem.Spec PyProof.Rows L2
theorem room70 {A : Around} {k : Nat} (hr : Room k A) : A.units + 70 < cLine := by
  have := hr.un
  omega
theorem call_list_ofK {X : Cx} {K : PySem.W.Frag} (h : X.K = K) : CallR X (.type "list") (fun xs H Q => ∃ p ys, xs = [.ref p] ∧ (SqL K H p ys ∨ SqT K H p ys) ∧ ∀ l, H l = none → Q (.ref l) (upd H l (.lst ys))) := by
  subst h
  exact call_list_of
/-! ### data that a repr takes -/
structure Nice (w n : Nat) (d : PyData) : Prop where
  can : d.canLay0 = true
  dep : d.depth ≤ n
  sho : d.showable = true
  lea : d.leavesShort 100 = true
  wei : d.weight ≤ w
theorem Nice.mono {w w' n n' : Nat} {d : PyData} (h : Nice w n d) (h1 : w ≤ w') (h2 : n ≤ n') : Nice w' n' d := ⟨h.can, Nat.le_trans h.dep h2, h.sho, h.lea, Nat.le_trans h.wei h1⟩
theorem Nice.fits {w n : Nat} {d : PyData} (h : Nice w n d) (hw : w ≤ 150000) (hn : n ≤ 64) : d.showable = true ∧ SeqAt.shaped d = true ∧ d.shown.length ≤ sizeLine := by
  refine ⟨h.sho, ?_, ?_⟩
  · unfold SeqAt.shaped
    rw [h.can]
    have := h.dep
    exact decide_eq_true (by omega)
  · have h1 := PyData.shown_le 100 (by decide) d h.lea
    have h2 := h.wei
    have h3 : d.shown.length ≤ 16000000 := by omega
    exact Nat.le_trans h3 (by decide)
theorem nice_none : Nice 0 0 .none := ⟨rfl, Nat.le_refl _, rfl, rfl, Nat.le_refl _⟩
theorem nice_str {s : Str} (h : KindOk s) : Nice 8 0 (.str s) := by
  refine ⟨?_, Nat.le_refl _, rfl, ?_, h.2.1⟩
  · rw [PyData.canLay0]
    exact h.str
  · rw [PyData.leavesShort, List.all_eq_true]
    intro c hc
    have := h.2.2 c hc
    exact decide_eq_true (by omega)
theorem nice_int {i : Int} (h : i.natAbs < 10 ^ 60) : Nice 201 0 (.int i) := by
  have h2 : i.natAbs < 2 ^ 200 := Nat.lt_of_lt_of_le h (by decide)
  have h3 : i.natAbs.log2 < 200 := by
    by_cases z : i.natAbs = 0
    · rw [z]
      decide
    · exact (Nat.log2_lt z).mpr h2
  refine ⟨by rw [PyData.canLay0], Nat.le_refl _, ?_, ?_, ?_⟩
  · rw [PyData.showable]
    exact decide_eq_true (by omega)
  · rw [PyData.leavesShort]
    refine decide_eq_true ?_
    have e := int_text_length_le10 (k := 60) (by decide) h
    show (Str.ofString (toString i)).length ≤ 100
    rw [PySem.ofString_length]
    omega
  · rw [PyData.weight]
    split <;> omega
theorem nice_items {w n : Nat} : ∀ {ds : List PyData}, (∀ d ∈ ds, Nice w n d) → PyData.canLayAll0 ds = true ∧ PyData.depthAll ds ≤ n ∧ PyData.showableAll ds = true ∧ PyData.leavesShortAll 100 ds = true ∧ PyData.weightAll ds ≤ (w + 1) * ds.length
  | [], _ => ⟨rfl, Nat.zero_le _, rfl, rfl, Nat.zero_le _⟩
  | d :: t, h => by
    have h1 := h d (List.mem_cons_self ..)
    obtain ⟨a, b, c, e, f⟩ := nice_items (ds := t) fun x hx => h x (List.mem_cons_of_mem _ hx)
    refine ⟨?_, ?_, ?_, ?_, ?_⟩
    · rw [PyData.canLayAll0, h1.can, a]
      rfl
    · rw [PyData.depthAll]
      exact Nat.max_le.mpr ⟨h1.dep, b⟩
    · rw [PyData.showableAll, h1.sho, c]
      rfl
    · rw [PyData.leavesShortAll, h1.lea, e]
      rfl
    · have h2 := h1.wei
      rw [PyData.weightAll, List.length_cons, Nat.mul_succ]
      omega
theorem nice_list {w n : Nat} {ds : List PyData} (h : ∀ d ∈ ds, Nice w n d) : Nice ((w + 1) * ds.length) (n + 1) (.list ds) := by
  obtain ⟨a, b, c, e, f⟩ := nice_items h
  exact ⟨by rw [PyData.canLay0]; exact a, by rw [PyData.depth]; omega, by rw [PyData.showable]; exact c, by rw [PyData.leavesShort]; exact e, by rw [PyData.weight]; exact f⟩
theorem nice_tup {w n : Nat} {ds : List PyData} (h : ∀ d ∈ ds, Nice w n d) : Nice ((w + 1) * ds.length) (n + 1) (.tuple ds) := by
  obtain ⟨a, b, c, e, f⟩ := nice_items h
  exact ⟨by rw [PyData.canLay0]; exact a, by rw [PyData.depth]; omega, by rw [PyData.showable]; exact c, by rw [PyData.leavesShort]; exact e, by rw [PyData.weight]; exact f⟩
/-- v stands for d at H and at every heap that keeps H -/
def DpS (K : PySem.W.Frag) (H : Hp) (v : V) (d : PyData) : Prop := ∀ H', Same H H' → Dp K H' v d
theorem DpS.same {K : PySem.W.Frag} {H H' : Hp} {v : V} {d : PyData} (s : Same H H') (h : DpS K H v d) : DpS K H' v d := fun H2 s2 => h H2 (s.trans s2)
theorem dps_all {K : PySem.W.Frag} {H : Hp} {F : PyData → Prop} : ∀ {xs : List V}, (∀ x ∈ xs, ∃ d, DpS K H x d ∧ F d) → ∃ ds, (∀ H', Same H H' → DpAll K H' xs ds) ∧ ds.length = xs.length ∧ ∀ d ∈ ds, F d
  | [], _ => ⟨[], fun _ _ => .nil, rfl, fun d h => by cases h⟩
  | x :: t, h => by
    obtain ⟨d, h1, h2⟩ := h x (List.mem_cons_self ..)
    obtain ⟨ds, a, b, c⟩ := dps_all (xs := t) fun y hy => h y (List.mem_cons_of_mem _ hy)
    refine ⟨d :: ds, fun H' s => .cons (h1 H' s) (a H' s), congrArg Nat.succ b, fun z hz => ?_⟩
    rcases List.mem_cons.mp hz with e | e
    · rw [e]
      exact h2
    · exact c z e
theorem dps_seq {K : PySem.W.Frag} {H : Hp} {a : Addr} {xs : List V} {w n : Nat} (hx : Sq2 H a xs) (h : ∀ x ∈ xs, ∃ d, DpS K H x d ∧ Nice w n d) : ∃ d, DpS K H (.ref a) d ∧ Nice ((w + 1) * xs.length) (n + 1) d := by
  obtain ⟨ds, h1, h2, h3⟩ := dps_all h
  rcases hx with z | z
  · exact ⟨.list ds, fun H' s => .lst (.of (s _ _ z)) (h1 H' s), by rw [← h2]; exact nice_list h3⟩
  · exact ⟨.tuple ds, fun H' s => .tup (.of (s _ _ z)) (h1 H' s), by rw [← h2]; exact nice_tup h3⟩
theorem dps_run {K : PySem.W.Frag} {H : Hp} {v : V} {r : Run} (h : RunG H v r) (k : KindOk r.1) (c : r.2.natAbs < 10 ^ 60) : ∃ d, DpS K H v d ∧ Nice 404 1 d := by
  obtain ⟨t, rfl, h⟩ := h
  have := dps_seq (K := K) (w := 201) (n := 0) h fun x hx => by
    rcases List.mem_cons.mp hx with e | e
    · rw [e]
      exact ⟨.str r.1, fun _ _ => .str _, (nice_str k).mono (by decide) (Nat.le_refl _)⟩
    · rw [List.mem_singleton.mp e]
      exact ⟨.int r.2, fun _ _ => .int _, nice_int c⟩
  exact this
theorem dps_runs {K : PySem.W.Frag} {H : Hp} {v : V} {rs : List Run} (h : RunsG H v rs) (k : ∀ r ∈ rs, KindOk r.1 ∧ r.2.natAbs < 10 ^ 60) (l : rs.length ≤ 100) : ∃ d, DpS K H v d ∧ Nice 41000 2 d := by
  obtain ⟨a, xs, rfl, hx, hp⟩ := h
  have lx : xs.length = rs.length := Paired.len hp
  obtain ⟨d, h1, h2⟩ := dps_seq (K := K) (w := 404) (n := 1) hx fun x hx => by
    obtain ⟨i, hi, e⟩ := List.mem_iff_getElem.mp hx
    obtain ⟨r, er, hr⟩ := Paired.at hp (List.getElem?_eq_getElem hi)
    rw [e] at hr
    have := k r (List.mem_of_getElem? er)
    exact dps_run hr this.1 this.2
  exact ⟨d, h1, h2.mono (by rw [lx]; omega) (Nat.le_refl _)⟩
theorem dps_st {K : PySem.W.Frag} {H : Hp} {v : V} {st : Option Run} (h : StG H v st) (k : ∀ r, st = some r → KindOk r.1 ∧ r.2.natAbs < 10 ^ 60) : ∃ d, DpS K H v d ∧ Nice 41000 2 d := by
  cases st with
  | none =>
    cases h
    exact ⟨.none, fun _ _ => .non, nice_none.mono (by decide) (by decide)⟩
  | some r =>
    obtain ⟨d, h1, h2⟩ := dps_run (K := K) h (k r rfl).1 (k r rfl).2
    exact ⟨d, h1, h2.mono (by decide) (by decide)⟩
theorem dps_two {K : PySem.W.Frag} {H : Hp} {a : Addr} {x y : V} (h : H a = some (.lst [x, y])) (hx : ∃ d, DpS K H x d ∧ Nice 41000 2 d) (hy : ∃ d, DpS K H y d ∧ Nice 41000 2 d) : ∃ d, DpS K H (.ref a) d ∧ Nice 82002 3 d := by
  have := dps_seq (K := K) (a := a) (xs := [x, y]) (w := 41000) (n := 2) (.inl h) fun z hz => by
    rcases List.mem_cons.mp hz with e | e
    · rw [e]
      exact hx
    · rw [List.mem_singleton.mp e]
      exact hy
  exact this
/-! ### dressed and undressed -/
def dP (r : Run) : PyData := .list [.str r.1, .int r.2]
def dSq (rs : List Run) : PyData := .list (rs.map dP)
def dSt : Option Run → PyData
  | none => .none
  | some r => dP r
theorem sim_pair {N : Addr → Prop} {H : Hp} {n : Nat} (r : Run) : Paired (Sim N H n) [V.str r.1, V.int r.2] [PyData.str r.1, PyData.int r.2] := .cons (Sim.dsc (.inr (.inr (.inr ⟨_, rfl, rfl⟩)))) (.cons (Sim.dsc (.inr (.inr (.inl ⟨_, rfl, rfl⟩)))) .nil)
theorem sim_run {H : Hp} {sp : Addr} {v : V} {r : Run} {n : Nat} (z : Spr H sp) (h : RunV H v r) : Sim (· ≠ sp) H (n + 1) v (dP r) := by
  obtain ⟨t, rfl, h⟩ := h
  obtain ⟨_, _, _, hs, _⟩ := z
  exact .inr ⟨t, _, _, rfl, ne_of h hs (by intro q; cases q), .inr h, rfl, sim_pair r, Nat.le_of_ble_eq_true rfl⟩
theorem sim_seq {H : Hp} {sp a : Addr} {rs : List Run} (z : Spr H sp) (h : Runs H a rs) (l : rs.length ≤ 1000) : Sim (· ≠ sp) H 2 (.ref a) (dSq rs) := by
  have na := Runs.ne z h
  obtain ⟨xs, hx, hp⟩ := h
  refine .inr ⟨a, xs, _, rfl, na, .inl hx, rfl, ?_, by rw [List.length_map]; exact l⟩
  have gen : ∀ {xs : List V} {rs : List Run}, Paired (RunV H) xs rs → Paired (Sim (· ≠ sp) H 1) xs (rs.map dP) := by
    intro xs rs h
    induction h with
    | nil => exact .nil
    | cons h _ ih => exact .cons (sim_run z h) ih
  exact gen hp
theorem sim_st {H : Hp} {sp : Addr} {v : V} {st : Option Run} (z : Spr H sp) (h : StV H v st) : Sim (· ≠ sp) H 2 v (dSt st) := by
  cases st with
  | none =>
    cases h
    exact .inl (.inl ⟨rfl, rfl⟩)
  | some r => exact sim_run z h
theorem sim_one {N : Addr → Prop} {H : Hp} {n : Nat} {v : V} {r : Run} (h : Sim N H (n + 1) v (dP r)) : RunG H v r := by
  rcases h with h | ⟨a, xs, ds, rfl, _, hx, e, p, _⟩
  · exact (dsc_lst h).elim
  · cases e
    have scal : ∀ {m : Nat} {x : V} {s : Str}, Sim N H m x (.str s) → x = .str s := by
      intro m x s h
      have h : Dsc x (.str s) := by
        cases m with
        | zero => exact h
        | succ m =>
          rcases h with h | ⟨_, _, _, _, _, _, e, _⟩
          · exact h
          · cases e
      rcases h with ⟨_, e⟩ | ⟨_, _, e⟩ | ⟨_, _, e⟩ | ⟨y, e1, e⟩ <;> cases e
      exact e1
    have scai : ∀ {m : Nat} {x : V} {s : Int}, Sim N H m x (.int s) → x = .int s := by
      intro m x s h
      have h : Dsc x (.int s) := by
        cases m with
        | zero => exact h
        | succ m =>
          rcases h with h | ⟨_, _, _, _, _, _, e, _⟩
          · exact h
          · cases e
      rcases h with ⟨_, e⟩ | ⟨_, _, e⟩ | ⟨y, e1, e⟩ | ⟨_, _, e⟩ <;> cases e
      exact e1
    cases p with
    | cons h1 p1 =>
      cases p1 with
      | cons h2 p2 =>
        cases p2
        rw [scal h1, scai h2] at hx
        exact ⟨a, rfl, hx⟩
theorem sim_all {N : Addr → Prop} {H : Hp} : ∀ (rs : List Run) (xs : List V), Paired (Sim N H 1) xs (rs.map dP) → Paired (RunG H) xs rs
  | [], xs, h => by
    cases h
    exact .nil
  | r :: t, xs, h => by
    cases h with
    | cons h1 h2 => exact .cons (sim_one h1) (sim_all t _ h2)
theorem sim_runs {N : Addr → Prop} {H : Hp} {v : V} {rs : List Run} (h : Sim N H 2 v (dSq rs)) : RunsG H v rs := by
  rcases h with h | ⟨a, xs, ds, rfl, _, hx, e, p, _⟩
  · exact (dsc_lst h).elim
  · cases e
    refine ⟨a, xs, rfl, hx, ?_⟩
    exact sim_all rs xs p
theorem sim_stg {N : Addr → Prop} {H : Hp} {v : V} {st : Option Run} (h : Sim N H 2 v (dSt st)) : StG H v st := by
  cases st with
  | none =>
    rcases h with h | ⟨_, _, _, _, _, _, e, _⟩
    · rcases h with ⟨e, _⟩ | ⟨_, _, e⟩ | ⟨_, _, e⟩ | ⟨_, _, e⟩
      · exact e
      all_goals cases e
    · cases e
  | some r => exact sim_one h
/-! ### one by one -/
theorem at_moment {rs : List Run} {st : Option Run} {m : Nat} (h : PosO st) (k : ∀ r ∈ rs, 1 ≤ r.2) : stR (cutR 0 (m : Int) 0 rs) st = toldR (plA (w0R st) 0 ((itR rs).take m)) := by
  rw [told_plA _ _ _ (uni_w0 st), told_w0 h, st_items _ _ h cutR_pos, cut_items _ _ _ (Int.le_refl _) k, Int.sub_zero, Int.toNat_natCast]
theorem at_end {rs : List Run} {st : Option Run} (h : PosO st) (k : ∀ r ∈ rs, 1 ≤ r.2) : stR rs st = toldR (plA (w0R st) 0 (itR rs)) := by
  rw [told_plA _ _ _ (uni_w0 st), told_w0 h, st_items _ _ h k]
theorem plMs_get (ws : List Run) (ks : List Str) {n : Nat} (h : n ≤ ks.length) : (plMs ws ks)[n]? = some (plA ws 0 (ks.take n)) := by
  unfold plMs
  rw [List.getElem?_map, List.getElem?_range (by omega)]
  rfl
def dO : Option Run → PyData
  | none => .none
  | some r => dRun r
theorem dt_st {H : Hp} {v : V} {st : Option Run} {n : Nat} (h : StV H v st) : Dt H (n + 1) v (dO st) := by
  cases st with
  | none =>
    cases h
    exact .inl (.inl ⟨rfl, rfl⟩)
  | some r =>
    obtain ⟨t, rfl, h⟩ := h
    refine .inr (.inr ⟨t, _, _, rfl, h, rfl, .cons ?_ (.cons ?_ .nil), Nat.le_of_ble_eq_true rfl⟩)
    · cases n with
      | zero => exact .inr (.inr (.inr ⟨_, rfl, rfl⟩))
      | succ m => exact .inl (.inr (.inr (.inr ⟨_, rfl, rfl⟩)))
    · cases n with
      | zero => exact .inr (.inr (.inl ⟨_, rfl, rfl⟩))
      | succ m => exact .inl (.inr (.inr (.inl ⟨_, rfl, rfl⟩)))
theorem w0_len {st : Option Run} (h : ∀ r, st = some r → r.2 ≤ 1000) : (w0R st).length ≤ 1000 := by
  cases st with
  | none => exact Nat.zero_le _
  | some r =>
    have := h r rfl
    show (List.replicate r.2.toNat (r.1, (-1 : Int))).length ≤ 1000
    rw [List.length_replicate]
    omega
theorem w0_kinds {st : Option Run} (h : StOk st) : ∀ r ∈ w0R st, KindOk r.1 := by
  cases st with
  | none => intro r h; cases h
  | some x =>
    intro r hr
    rw [List.eq_of_mem_replicate hr]
    exact (h x rfl).1
theorem it_kinds {rs : List Run} (h : ∀ r ∈ rs, KindOk r.1) : ∀ k ∈ itR rs, KindOk k := by
  intro k hk
  obtain ⟨r, h1, h2⟩ := List.mem_flatMap.mp hk
  rw [List.eq_of_mem_replicate h2]
  exact h r h1
end UP

set_option Elab.async false
set_option linter.all false
set_option maxRecDepth 100000
set_option maxHeartbeats 4000000
namespace UP
open PySem PySem.Spec PyProof.Rows L2
theorem paired_snoc {α β : Type} {F : α → β → Prop} : ∀ {xs : List α} (l : List β) (y : β), Paired F xs (l ++ [y]) → ∃ xs0 x, xs = xs0 ++ [x] ∧ Paired F xs0 l ∧ F x y
  | _, [], y, h => by
    cases h with
    | cons h1 h2 =>
      cases h2
      exact ⟨[], _, rfl, .nil, h1⟩
  | _, z :: l, y, h => by
    cases h with
    | cons h1 h2 =>
      obtain ⟨xs0, x, e, h3, h4⟩ := paired_snoc l y h2
      exact ⟨_ :: xs0, x, by rw [e]; rfl, .cons h1 h3, h4⟩
theorem set_last {α : Type} : ∀ (l : List α) (x y : α), (l ++ [x]).set l.length y = l ++ [y]
  | [], _, _ => rfl
  | z :: l, x, y => congrArg (z :: ·) (set_last l x y)
theorem ixN_last {n : Nat} : ixN (n + 1) (-1) = some n := by
  unfold ixN
  simp
  omega
/-! ### one more run -/
def addR (rs : List Run) (r : Run) : List Run := match rs.getLast? with
  | none => [r]
  | some l => if l.1 = r.1 then rs.dropLast ++ [(r.1, l.2 + r.2)] else rs ++ [r]
def joinR (rs cs : List Run) : List Run := cs.foldl addR rs
theorem joinR_snoc (rs cs : List Run) (r : Run) : joinR rs (cs ++ [r]) = addR (joinR rs cs) r := by
  unfold joinR
  rw [List.foldl_append]
  rfl
theorem addR_len (rs : List Run) (r : Run) : (addR rs r).length ≤ rs.length + 1 := by
  unfold addR
  split
  · exact Nat.le_add_left _ _
  · split
    · rw [List.length_append, List.length_dropLast]
      simp only [List.length_cons, List.length_nil]
      omega
    · rw [List.length_append]
      exact Nat.le_refl _
theorem joinR_len : ∀ (cs rs : List Run), (joinR rs cs).length ≤ rs.length + cs.length
  | [], _ => Nat.le_refl _
  | c :: t, rs => by
    have h1 := joinR_len t (addR rs c)
    have h2 := addR_len rs c
    show (joinR (addR rs c) t).length ≤ _
    rw [List.length_cons]
    omega
theorem RunV.butL {H H' : Hp} {p : Addr} {xs : List V} {v : V} {r : Run} (hp : H p = some (.lst xs)) (b : But p H H') (h : RunV H v r) : RunV H' v r := by
  obtain ⟨t, e, h⟩ := h
  exact ⟨t, e, b _ _ (ne_of h hp (by intro q; cases q)) h⟩
section
variable {P : Program} {w : World} {K : PySem.W.Frag} {mg : Str → Option Value} {base : Heap}
end
end UP

set_option Elab.async false
set_option linter.all false
set_option maxRecDepth 100000
set_option maxHeartbeats 4000000
namespace UP
open PySem PySem.Spec PyProof.Rows L2
def runR (ks : List Str) : List Run := ks.foldl (fun rs k => addR rs (k, 1)) []
theorem runR_snoc (ks : List Str) (k : Str) : runR (ks ++ [k]) = addR (runR ks) (k, 1) := by
  unfold runR
  rw [List.foldl_append]
  rfl
theorem runR_len (ks : List Str) : (runR ks).length ≤ ks.length := by
  have gen : ∀ (ks : List Str) (rs : List Run), (ks.foldl (fun rs k => addR rs (k, 1)) rs).length ≤ rs.length + ks.length := by
    intro ks
    induction ks with
    | nil => intro rs; exact Nat.le_refl _
    | cons k t ih =>
      intro rs
      have h1 := ih (addR rs (k, 1))
      have h2 := addR_len rs (k, 1)
      show (t.foldl (fun rs k => addR rs (k, 1)) (addR rs (k, 1))).length ≤ _
      rw [List.length_cons]
      omega
  have := gen ks []
  rw [List.length_nil, Nat.zero_add] at this
  exact this
section
variable {P : Program} {w : World} {K : PySem.W.Frag} {mg : Str → Option Value} {base : Heap}
/-! checked_short_runs: slots 0:sequence 1:runs -/
abbrev s_checked_short_runs : Stmt := topS 26
theorem sc_checked_short_runs : FnScope ["sequence", "runs"] ["sequence"] (defScope s_checked_short_runs) := ⟨rfl, rfl, rfl, by decide +kernel, rfl, by decide +kernel, by decide +kernel⟩
def sp_checked_short_runs : Sp := fun vs H Q _ => ∃ (av : V) (rs : List Run), vs = [av] ∧ RunsG H av rs ∧ SeqOk rs ∧ lenR rs ≤ 400 ∧ ∀ H' p, Same H H' → H p = none → Runs H' p rs → Q (.ref p) H'
theorem ok_checked_short_runs (D : Df K mg "checked_short_runs" s_checked_short_runs) (T : Tx mg) (G_checked_runs : Has P w K mg base 5 "checked_runs" ["sequence"] sp_checked_runs) (G_length_of : Has P w K mg base 1 "length_of" ["runs"] sp_length_of) :
    Has P w K mg base 6 "checked_short_runs" ["sequence"] sp_checked_short_runs := by
  refine has_of D sc_checked_short_runs (fun _ _ _ _ _ _ us hl => match us, hl with | [_], _ => rfl) (fun vs H Q E h => ?_) (fun f cdv A outer s₀ H vs Q E hr h => ?_)
  · obtain ⟨a, R, rfl, _⟩ := h
    rfl
  · obtain ⟨av, rs, rfl, hR, ok, l4, q⟩ := h
    have lr := ok.1
    refine ⟨_, (pss_cons (ps_set (i := 1) sc_checked_short_runs.nd rfl (by first | exact Or.inl rfl | exact Or.inr rfl) (pe_callH G_checked_runs (hr.mono (by omega)) (by rfl) (pa_cons (pv 0) pa_nil)))
    (pss_cons (ps_if (pt_cmpR op_gt (pe_callH G_length_of (hr.mono (by omega)) (by rfl) (pa_cons (pv 1) pa_nil)) (pe_glI T.c_MAX_ITEMS (by rfl)) (nomark _)) (pss_one ps_never) pss_nil)
    (pss_one (ps_ret (pv 1))))), ?_⟩
    refine ⟨_, rfl, av, rs, rfl, hR, ok, fun H1 p1 s1 n1 h1 => ?_⟩
    refine ⟨_, rfl, p1, rs, rfl, h1, by omega, fun H2 s2 => ⟨_, _, rfl, rfl, _, rfl, iteN (decide_eq_false (by omega)) ?_⟩⟩
    exact ⟨_, rfl, q H2 p1 (s1.trans s2) n1 (h1.same s2)⟩
/-! items_of: slots 0:sequence 1:items 2:kind 3:count -/
abbrev s_items_of : Stmt := topS 32
theorem sc_items_of : FnScope ["sequence", "items", "kind", "count"] ["sequence"] (defScope s_items_of) := ⟨rfl, rfl, rfl, by decide +kernel, rfl, by decide +kernel, by decide +kernel⟩
def sp_items_of : Sp := fun vs H Q _ => ∃ (av : V) (rs : List Run), vs = [av] ∧ RunsG H av rs ∧ SeqOk rs ∧ lenR rs ≤ 400 ∧ ∀ H' p, Same H H' → H p = none → H' p = some (.lst ((itR rs).map V.str)) → Q (.ref p) H'
theorem ok_items_of (D : Df K mg "items_of" s_items_of) (T : Tx mg) (G_checked_short_runs : Has P w K mg base 6 "checked_short_runs" ["sequence"] sp_checked_short_runs) :
    Has P w K mg base 7 "items_of" ["sequence"] sp_items_of := by
  refine has_of D sc_items_of (fun _ _ _ _ _ _ us hl => match us, hl with | [_], _ => rfl) (fun vs H Q E h => ?_) (fun f cdv A outer s₀ H vs Q E hr h => ?_)
  · obtain ⟨a, R, rfl, _⟩ := h
    rfl
  · obtain ⟨av, rs, rfl, hR, ok, l4, q⟩ := h
    have pos := ok.pos
    have lenq := len_it rs pos
    have lr := ok.1
    refine ⟨_, (pss_cons (ps_set (i := 1) sc_items_of.nd rfl (by first | exact Or.inl rfl | exact Or.inr rfl) (pe_lst pa_nil))
    (pss_cons (ps_for PassesOwn.never rfl (pi_list (pe_callH G_checked_short_runs (hr.mono (by omega)) (by rfl) (pa_cons (pv 0) pa_nil))) (pg_tup rfl (pgs_cons (pg_name (i := 2) sc_items_of.nd rfl (by first | exact Or.inl rfl | exact Or.inr rfl)) (pgs_cons (pg_name (i := 3) sc_items_of.nd rfl (by first | exact Or.inl rfl | exact Or.inr rfl)) pgs_nil)))
      (pss_one (ps_expr (pe_bm PySem.F.plainAttrs_list PySem.F.slot_list_extend PySem.F.type_list_extend mt_extend (pv 1) (pa_cons (pe_op op_rep (pe_lst (pa_cons (pv 2) pa_nil)) (pv 3)) pa_nil)))))
    (pss_one (ps_ret (pv 1))))), ?_⟩
    refine ⟨Nat.zero_le _, fun p np => ?_⟩
    have s0 := same_upd (o := .lst []) np
    refine ⟨_, rfl, av, rs, rfl, hR.same s0, ok, l4, fun H2 p1 s1 n1 h1 => ?_⟩
    obtain ⟨xs, hx, hpr⟩ := h1
    have lx : xs.length = rs.length := Paired.len hpr
    have sA := s0.trans s1
    have np1 : p1 ≠ p := fun z => by
      rw [z, upd_same] at n1
      cases n1
    refine ⟨p1, rfl, ⟨xs, .of hx⟩, for_list (K := K) (a := p1) (xs := xs) (fun i σ H' => ∃ y3 y4, σ = [some av, some (.ref p), y3, y4] ∧ But p H2 H' ∧ H' p = some (.lst ((itR (rs.take i)).map V.str)))
      ⟨none, none, rfl, But.refl, s1 _ _ upd_same⟩ (fun i σ H' _ hP => ?_) (fun i x σ H4 ex hP => ?_) (fun σ H4 hP => ?_)⟩
    · obtain ⟨_, _, _, bt, _⟩ := hP
      exact .of (bt _ _ np1 hx)
    · obtain ⟨y3, y4, rfl, bt, hL⟩ := hP
      obtain ⟨r, er, hr1⟩ := Paired.at hpr ex
      obtain ⟨t, rfl, ht⟩ := RunV.butL (s1 _ _ upd_same) bt hr1
      have c1 := pos r (List.mem_of_getElem? er)
      have e2 : itR (rs.take (i + 1)) = itR (rs.take i) ++ List.replicate r.2.toNat r.1 := by rw [take_snoc er, itR_snoc]
      have le : ((itR (rs.take i)).length + r.2.toNat : Nat) ≤ 400 := by
        have a1 : (itR (rs.take (i + 1)) ++ itR (rs.drop (i + 1))) = itR rs := by
          unfold itR
          rw [← List.flatMap_append, List.take_append_drop]
        have a2 := congrArg List.length a1
        rw [List.length_append, e2, List.length_append, List.length_replicate] at a2
        omega
      refine ⟨t, _, rfl, .of ht, rfl, _, _, rfl, _, _, rfl, rfl, ?_⟩
      refine ⟨_, rfl, .inl ⟨rfl, _, SqL.of hL⟩, _, rfl, (by show 1 ≤ sizeLine; decide), fun l1 m1 => ?_⟩
      refine ⟨_, rfl, l1, r.2, [.str r.1], rfl, rfl, upd_same, by omega, by omega, smallE (by show 1 * r.2.toNat ≤ 1000000; omega), fun l2 m2 => ?_⟩
      rw [flat_one]
      have s5 := (same_upd (o := .lst [.str r.1]) m1).trans (same_upd (o := .lst (List.replicate r.2.toNat (.str r.1))) m2)
      refine ⟨p, l2, _, _, rfl, rfl, same_upd m2 _ _ (same_upd m1 _ _ hL), upd_same, ?_, _, _, rfl, bt.trans (fun b o n e => by rw [upd_ne n]; exact s5 _ _ e), ?_⟩
      · rw [List.length_map, List.length_replicate]
        exact smallE (by omega)
      · rw [upd_same, e2, List.map_append, List.map_replicate]
    · obtain ⟨y3, y4, rfl, bt, hL⟩ := hP
      rw [lx, List.take_length] at hL
      exact ⟨_, rfl, q H4 p (fun b o e => bt _ _ (ne_of_none e np) (sA _ _ e)) np hL⟩
end
end UP

set_option Elab.async false
set_option linter.all false
set_option maxRecDepth 100000
set_option maxHeartbeats 4000000
namespace UP
open PySem PySem.Spec PyProof.Rows L2
theorem Alt.tail {r : Run} {t : List Run} (h : Alt (r :: t)) : Alt t := fun i x y hx hy => h (i + 1) x y hx hy
theorem addR_new {rs : List Run} {r : Run} (h : ∀ l, rs.getLast? = some l → l.1 ≠ r.1) : addR rs r = rs ++ [r] := by
  unfold addR
  cases e : rs.getLast? with
  | none =>
    rw [List.getLast?_eq_none_iff.mp e]
    rfl
  | some l => exact if_neg (h l e)
theorem addR_more (R : List Run) (l r : Run) (h : l.1 = r.1) : addR (R ++ [l]) r = R ++ [(r.1, l.2 + r.2)] := by
  unfold addR
  rw [List.getLast?_concat, List.dropLast_concat]
  exact if_pos h
theorem join_alt : ∀ (cs rs : List Run), Alt cs → (∀ l c, rs.getLast? = some l → cs.head? = some c → l.1 ≠ c.1) → joinR rs cs = rs ++ cs
  | [], rs, _, _ => by
    rw [List.append_nil]
    rfl
  | c :: t, rs, a, h => by
    show joinR (addR rs c) t = rs ++ c :: t
    rw [addR_new fun l hl => h l c hl rfl, join_alt t (rs ++ [c]) a.tail (fun l d hl hd => ?_), List.append_assoc]
    · rfl
    · rw [List.getLast?_concat] at hl
      cases hl
      cases t with
      | nil => cases hd
      | cons e u =>
        cases hd
        exact a 0 _ _ rfl rfl
theorem join_more (R : List Run) (l c : Run) (t : List Run) (a : Alt (c :: t)) (h : l.1 = c.1) : joinR (R ++ [l]) (c :: t) = R ++ [(c.1, l.2 + c.2)] ++ t := by
  show joinR (addR (R ++ [l]) c) t = _
  rw [addR_more R l c h, join_alt t _ a.tail (fun l' d hl hd => ?_)]
  rw [List.getLast?_concat] at hl
  cases hl
  cases t with
  | nil => cases hd
  | cons e u =>
    cases hd
    exact a 0 c _ rfl rfl
/-! ### items and runs -/
theorem run_more : ∀ (n : Nat) (R : List Run) (k : Str) (c : Int), (List.replicate n k).foldl (fun rs k => addR rs (k, 1)) (R ++ [(k, c)]) = R ++ [(k, c + (n : Int))]
  | 0, R, k, c => by
    rw [show c + ((0 : Nat) : Int) = c by omega]
    rfl
  | n + 1, R, k, c => by
    show (List.replicate n k).foldl (fun rs k => addR rs (k, 1)) (addR (R ++ [(k, c)]) (k, 1)) = _
    rw [addR_more R (k, c) (k, 1) rfl, run_more n R k (c + 1), show c + 1 + (n : Int) = c + ((n + 1 : Nat) : Int) by omega]
theorem run_one (n : Nat) (rs : List Run) (k : Str) (h : ∀ l, rs.getLast? = some l → l.1 ≠ k) : (List.replicate (n + 1) k).foldl (fun rs k => addR rs (k, 1)) rs = rs ++ [(k, (n : Int) + 1)] := by
  show (List.replicate n k).foldl (fun rs k => addR rs (k, 1)) (addR rs (k, 1)) = _
  rw [addR_new (r := (k, 1)) h, run_more n rs k 1, show (1 : Int) + (n : Int) = (n : Int) + 1 by omega]
theorem run_items : ∀ (rs R : List Run), Alt rs → (∀ r ∈ rs, 1 ≤ r.2) → (∀ l c, R.getLast? = some l → rs.head? = some c → l.1 ≠ c.1) → (itR rs).foldl (fun rs k => addR rs (k, 1)) R = R ++ rs
  | [], R, _, _, _ => by
    rw [List.append_nil]
    rfl
  | r :: t, R, a, p, h => by
    have c1 := p r (List.mem_cons_self ..)
    obtain ⟨n, hn⟩ : ∃ n : Nat, r.2.toNat = n + 1 := ⟨r.2.toNat - 1, by omega⟩
    have e : itR (r :: t) = List.replicate r.2.toNat r.1 ++ itR t := rfl
    rw [e, List.foldl_append, hn, run_one n R r.1 (fun l hl => h l r hl rfl), show (n : Int) + 1 = r.2 by omega, run_items t (R ++ [(r.1, r.2)]) a.tail (fun x hx => p x (List.mem_cons_of_mem _ hx)) (fun l d hl hd => ?_), List.append_assoc]
    · rfl
    · rw [List.getLast?_concat] at hl
      cases hl
      cases t with
      | nil => cases hd
      | cons e u =>
        cases hd
        exact a 0 _ _ rfl rfl
theorem run_it {rs : List Run} (a : Alt rs) (p : ∀ r ∈ rs, 1 ≤ r.2) : runR (itR rs) = rs := by
  have := run_items rs [] a p (fun l c hl => by cases hl)
  rw [List.nil_append] at this
  exact this
theorem it_one (k : Str) (c : Int) : itR [(k, c)] = List.replicate c.toNat k := by
  show List.replicate c.toNat k ++ [] = _
  rw [List.append_nil]
theorem it_add (rs : List Run) (k : Str) (p : ∀ r ∈ rs, 1 ≤ r.2) : itR (addR rs (k, 1)) = itR rs ++ [k] := by
  rcases List.eq_nil_or_concat rs with e0 | ⟨R0, l, e0⟩
  · subst e0
    rfl
  · rw [List.concat_eq_append] at e0
    subst e0
    have c1 := p l (List.mem_append.mpr (.inr (List.mem_singleton.mpr rfl)))
    by_cases h : l.1 = k
    · rw [addR_more R0 l (k, 1) h, it_app, it_app, List.append_assoc, it_one]
      congr 1
      have e : itR [l] = List.replicate l.2.toNat l.1 := it_one l.1 l.2
      show List.replicate (l.2 + 1).toNat k = itR [l] ++ [k]
      rw [e, h, show (l.2 + 1).toNat = l.2.toNat + 1 by omega, List.replicate_succ']
    · rw [addR_new (fun l' hl => by rw [List.getLast?_concat] at hl; cases hl; exact h), it_app]
      rfl
/-- what holds of the runs of some kinds -/
structure RunsOf (rs : List Run) (ks : List Str) : Prop where
  it : itR rs = ks
  pos : ∀ r ∈ rs, 1 ≤ r.2
  mem : ∀ r ∈ rs, r.1 ∈ ks
  alt : Alt rs
theorem runs_snoc {rs : List Run} {ks : List Str} {k : Str} (h : RunsOf rs ks) : RunsOf (addR rs (k, 1)) (ks ++ [k]) := by
  obtain ⟨i, p, m, a⟩ := h
  refine ⟨by rw [it_add rs k p, i], ?_, ?_, ?_⟩
  all_goals
    rcases List.eq_nil_or_concat rs with e0 | ⟨R0, l, e0⟩
  · subst e0
    intro r hr
    rw [List.mem_singleton.mp (show r ∈ [(k, (1 : Int))] from hr)]
    exact Int.le_refl 1
  · rw [List.concat_eq_append] at e0
    subst e0
    have c1 := p l (List.mem_append.mpr (.inr (List.mem_singleton.mpr rfl)))
    intro r hr
    by_cases h : l.1 = k
    · rw [addR_more R0 l (k, 1) h] at hr
      rcases List.mem_append.mp hr with z | z
      · exact p r (List.mem_append.mpr (.inl z))
      · rw [List.mem_singleton.mp z]
        show 1 ≤ l.2 + 1
        omega
    · rw [addR_new (fun l' hl => by rw [List.getLast?_concat] at hl; cases hl; exact h)] at hr
      rcases List.mem_append.mp hr with z | z
      · exact p r z
      · rw [List.mem_singleton.mp z]
        exact Int.le_refl 1
  · subst e0
    intro r hr
    rw [List.mem_singleton.mp (show r ∈ [(k, (1 : Int))] from hr)]
    exact List.mem_append.mpr (.inr (List.mem_singleton.mpr rfl))
  · rw [List.concat_eq_append] at e0
    subst e0
    intro r hr
    by_cases h : l.1 = k
    · rw [addR_more R0 l (k, 1) h] at hr
      rcases List.mem_append.mp hr with z | z
      · exact List.mem_append.mpr (.inl (m r (List.mem_append.mpr (.inl z))))
      · rw [List.mem_singleton.mp z]
        exact List.mem_append.mpr (.inr (List.mem_singleton.mpr rfl))
    · rw [addR_new (fun l' hl => by rw [List.getLast?_concat] at hl; cases hl; exact h)] at hr
      rcases List.mem_append.mp hr with z | z
      · exact List.mem_append.mpr (.inl (m r z))
      · rw [List.mem_singleton.mp z]
        exact List.mem_append.mpr (.inr (List.mem_singleton.mpr rfl))
  · subst e0
    intro i x y hx hy
    cases hy
  · rw [List.concat_eq_append] at e0
    subst e0
    by_cases h : l.1 = k
    · rw [addR_more R0 l (k, 1) h]
      have e : (R0 ++ [((k, (1 : Int)).1, l.2 + (k, (1 : Int)).2)]).map (·.1) = (R0 ++ [l]).map (·.1) := by
        rw [List.map_append, List.map_append]
        show R0.map (·.1) ++ [k] = R0.map (·.1) ++ [l.1]
        rw [h]
      intro i x y hx hy
      have ex := congrArg (fun z : List Str => z[i]?) e
      have ey := congrArg (fun z : List Str => z[i + 1]?) e
      simp only [List.getElem?_map] at ex ey
      rw [hx] at ex
      rw [hy] at ey
      cases gx : (R0 ++ [l])[i]? with
      | none => rw [gx] at ex; cases ex
      | some x' =>
        cases gy : (R0 ++ [l])[i + 1]? with
        | none => rw [gy] at ey; cases ey
        | some y' =>
          rw [gx] at ex
          rw [gy] at ey
          have ex : x.1 = x'.1 := Option.some.inj ex
          have ey : y.1 = y'.1 := Option.some.inj ey
          rw [ex, ey]
          exact a i x' y' gx gy
    · rw [addR_new (fun l' hl => by rw [List.getLast?_concat] at hl; cases hl; exact h)]
      refine alt_snoc a fun y hy => ?_
      rw [← List.getLast?_eq_getElem?, List.getLast?_concat] at hy
      cases hy
      exact h
theorem runs_of_all : ∀ (ks l : List Str) (R : List Run), RunsOf R l → RunsOf (ks.foldl (fun rs k => addR rs (k, 1)) R) (l ++ ks)
  | [], l, R, h => by
    rw [List.append_nil]
    exact h
  | k :: t, l, R, h => by
    have := runs_of_all t (l ++ [k]) _ (runs_snoc (k := k) h)
    rw [List.append_assoc] at this
    exact this
theorem runs_all (ks : List Str) : RunsOf (runR ks) ks := runs_of_all ks [] [] ⟨rfl, (fun r h => by cases h), (fun r h => by cases h), fun i x y hx => by simp at hx⟩
theorem len_mem {rs : List Run} (p : ∀ r ∈ rs, 1 ≤ r.2) : ∀ r ∈ rs, r.2 ≤ lenR rs := by
  induction rs with
  | nil => intro r h; cases h
  | cons x t ih =>
    intro r hr
    have c1 := p x (List.mem_cons_self ..)
    have ih' := ih fun y hy => p y (List.mem_cons_of_mem _ hy)
    rw [lenR_cons]
    have nn : 0 ≤ lenR t := by
      have := len_it t fun y hy => p y (List.mem_cons_of_mem _ hy)
      omega
    rcases List.mem_cons.mp hr with e | e
    · rw [e]
      omega
    · have := ih' r e
      omega
theorem seq_runs {ks : List Str} (l : ks.length ≤ 400) (ok : ∀ k ∈ ks, KindOk k) : SeqOk (runR ks) ∧ lenR (runR ks) ≤ 400 ∧ itR (runR ks) = ks := by
  obtain ⟨i, p, m, a⟩ := runs_all ks
  have ll := len_it (runR ks) p
  rw [i] at ll
  refine ⟨⟨?_, fun r hr => ⟨ok _ (m r hr), p r hr, ?_⟩, a⟩, by omega, i⟩
  · exact Nat.le_trans (runR_len ks) l
  · have := len_mem p r hr
    omega
end UP

set_option Elab.async false
set_option linter.all false
set_option maxRecDepth 100000
set_option maxHeartbeats 4000000
namespace UP
open PySem PySem.Spec PyProof.Rows L2
/-! ### the stream -/
def SM (H : Hp) (st : Addr) : Prop := ∃ d s : Int, H st = some (.lst [.int d, .int s]) ∧ 0 ≤ d ∧ 0 ≤ s ∧ s < 2147483647
theorem SM.same {H H' : Hp} {st : Addr} (s : Same H H') (h : SM H st) : SM H' st := by
  obtain ⟨d, c, e, r⟩ := h
  exact ⟨d, c, s _ _ e, r⟩
theorem SM.ne {H : Hp} {st p : Addr} (z : SM H st) (h : H p = none) : p ≠ st := by
  obtain ⟨_, _, e, _⟩ := z
  exact (ne_of_none e h).symm
theorem Runs.butM {H H' : Hp} {st a : Addr} {rs : List Run} (z : SM H st) (s : But st H H') (h : Runs H a rs) : Runs H' a rs := by
  obtain ⟨xs, e, p⟩ := h
  obtain ⟨d, c, hs, _⟩ := z
  refine ⟨xs, s _ _ (ne_of e hs fun q => ?_) e, Paired.imp (fun v r w => ?_) p⟩
  · have q := HO.lst.inj q
    subst q
    cases p with
    | cons h _ =>
      obtain ⟨t, e, _⟩ := h
      cases e
  · obtain ⟨t, e, h⟩ := w
    exact ⟨t, e, s _ _ (ne_of h hs (by intro q; cases q)) h⟩
theorem atI_ofB {α : Type} {l : List α} {i : Int} {x : α} (h0 : 0 ≤ i) (h : l[i.toNat]? = some x) : atI l i = some x := by
  have : i < l.length := by
    obtain ⟨q, _⟩ := List.getElem?_eq_some_iff.mp h
    omega
  unfold atI ixN
  rw [if_pos h0, if_pos (by omega)]
  exact h
theorem at2a {α : Type} {x y : α} : atI [x, y] 0 = some x := rfl
theorem at2b {α : Type} {x y : α} : atI [x, y] 1 = some y := rfl
theorem p18 : (10 : Int) ^ ((18 : Int).toNat) = 1000000000000000000 := by decide +kernel
theorem p29 : (10 : Int) ^ ((29 : Int).toNat) = 100000000000000000000000000000 := by decide +kernel
section
variable {P : Program} {w : World} {K : PySem.W.Frag} {mg : Str → Option Value} {base : Heap}
/-! _law_stream: slots 0:cell 1:k -/
abbrev s_law_stream : Stmt := topS 71
theorem sc_law_stream : FnScope ["cell", "k"] ["cell", "k"] (defScope s_law_stream) := ⟨rfl, rfl, rfl, by decide +kernel, rfl, by decide +kernel, by decide +kernel⟩
def sp_law_stream : Sp := fun vs H Q _ => ∃ (c : Int) (k : Nat), vs = [.int c, .int (k : Int)] ∧ k ≤ 100 ∧ ∀ H' p, Same H H' → H p = none → SM H' p → Q (.ref p) H'
theorem ok_law_stream (D : Df K mg "_law_stream" s_law_stream) (T : Tx mg) : Has P w K mg base 1 "_law_stream" ["cell", "k"] sp_law_stream := by
  refine has_of D sc_law_stream (fun _ _ _ _ _ _ us hl => match us, hl with | [_, _], _ => rfl) (fun vs H Q E h => ?_) (fun f cdv A outer s H vs Q E hr h => ?_)
  · obtain ⟨_, _, rfl, _⟩ := h
    rfl
  · obtain ⟨c, k, rfl, hk, q⟩ := h
    refine ⟨_, (pss_one (ps_ret (pe_lst (pa_cons (pe_callB call_abs (by rfl) T.n_abs (by decide +kernel) (pa_cons (pv 0) pa_nil)) (pa_cons (pe_op op_mod (pe_op op_mul (pe_op op_add (pe_op op_mod (pe_callB call_abs (by rfl) T.n_abs (by decide +kernel) (pa_cons (pv 0) pa_nil)) pe_int) pe_int) (pe_op op_add (pe_op op_mul pe_int (pv 1)) pe_int)) pe_int) pa_nil))))), ?_⟩
    have a0 : 0 ≤ (if c < 0 then -c else c) := by split <;> omega
    have m0 := Int.emod_nonneg (if c < 0 then -c else c) (show (2147483629 : Int) ≠ 0 by decide)
    have m1 := Int.emod_lt_of_pos (if c < 0 then -c else c) (show (0 : Int) < 2147483629 by decide)
    refine ⟨_, rfl, _, rfl, _, rfl, _, rfl, _, _, rfl, rfl, (by show (0 : Int) < 2147483629; decide), _, _, rfl, rfl, _, rfl, _, _, rfl, rfl, .inl ⟨by decide, by decide⟩, _, _, rfl, rfl, _, _, rfl, rfl, .inl ⟨?_, ?_⟩, _, _, rfl, rfl, (by show (0 : Int) < 2147483647; decide), (by show 2 ≤ sizeLine; decide), fun p np => q _ p (same_upd np) np ⟨_, _, upd_same, a0, Int.emod_nonneg _ (by decide), Int.emod_lt_of_pos _ (by decide)⟩⟩
    · show -(2 ^ 64) < (if c < 0 then -c else c) % 2147483629 + 1
      omega
    · show (if c < 0 then -c else c) % 2147483629 + 1 < 2 ^ 64
      omega
/-! _law_draw: slots 0:stream 1:many 2:stirred 3:found -/
abbrev s_law_draw : Stmt := topS 72
theorem sc_law_draw : FnScope ["stream", "many", "stirred", "found"] ["stream", "many"] (defScope s_law_draw) := ⟨rfl, rfl, rfl, by decide +kernel, rfl, by decide +kernel, by decide +kernel⟩
def sp_law_draw : Sp := fun vs H Q _ => ∃ (st : Addr) (m : Int), vs = [.ref st, .int m] ∧ SM H st ∧ 1 ≤ m ∧ m.natAbs < 2 ^ 8000 ∧ ∀ H' r, But st H H' → SM H' st → 0 ≤ r → r < m → Q (.int r) H'
theorem ok_law_draw (D : Df K mg "_law_draw" s_law_draw) (T : Tx mg) : Has P w K mg base 1 "_law_draw" ["stream", "many"] sp_law_draw := by
  refine has_of D sc_law_draw (fun _ _ _ _ _ _ us hl => match us, hl with | [_, _], _ => rfl) (fun vs H Q E h => ?_) (fun f cdv A outer s₀ H vs Q E hr h => ?_)
  · obtain ⟨a, rs, rfl, _⟩ := h
    rfl
  · obtain ⟨st, m, rfl, ⟨d, s, hs, d0, s0, s1⟩, m1, m2, q⟩ := h
    refine ⟨_, (pss_cons (ps_if (pt_cmpR op_ge (pe_ix ix_list (pv 0) pe_int (fun _ _ => rfl)) (pe_op op_pow pe_int pe_int) (nomark _)) (pss_cons (ps_set (i := 3) sc_law_draw.nd rfl (by first | exact Or.inl rfl | exact Or.inr rfl) (pe_op op_mod (pe_ix ix_list (pv 0) pe_int (fun _ _ => rfl)) (pv 1)))
    (pss_cons (ps_asg (pe_op op_fdivW (pe_ix ix_list (pv 0) pe_int (fun _ _ => rfl)) (pv 1)) (pg_sub (pv 0) pe_int set_list))
    (pss_one (ps_ret (pv 3))))) pss_nil)
    (pss_cons (ps_asg (pe_op op_mod (pe_op op_mul (pe_op op_add (pe_ix ix_list (pv 0) pe_int (fun _ _ => rfl)) pe_int) pe_int) pe_int) (pg_sub (pv 0) pe_int set_list))
    (pss_cons (ps_set (i := 2) sc_law_draw.nd rfl (by first | exact Or.inl rfl | exact Or.inr rfl) (pe_op op_mod (pe_op op_mul (pe_ix ix_list (pv 0) pe_int (fun _ _ => rfl)) (pe_ix ix_list (pv 0) pe_int (fun _ _ => rfl))) pe_int))
    (pss_one (ps_ret (pe_op op_mod (pe_op op_fdiv (pe_op op_mod (pe_op op_mul (pv 2) pe_int) pe_int) pe_int) (pv 1))))))), ?_⟩
    refine ⟨_, rfl, st, _, 0, _, rfl, rfl, .of hs, at2a, _, _, rfl, rfl, ⟨by decide, by decide, by decide⟩, _, _, rfl, rfl, _, rfl, ?_⟩
    by_cases e : (10 : Int) ^ ((18 : Int).toNat) ≤ d
    · refine iteP (decide_eq_true e) ?_
      refine ⟨_, rfl, st, _, 0, _, rfl, rfl, .of hs, at2a, _, rfl, _, _, rfl, rfl, (by omega), ?_⟩
      refine ⟨_, rfl, st, _, 0, _, rfl, rfl, .of hs, at2a, _, rfl, _, _, rfl, rfl, wide_div (by omega) m2 (by decide) (by decide), ?_⟩
      refine ⟨_, rfl, st, _, 0, 0, rfl, rfl, hs, rfl, _, rfl, q _ _ but_upd ⟨d / m, s, upd_same, Int.ediv_nonneg d0 (by omega), s0, s1⟩ (Int.emod_nonneg _ (by omega)) (Int.emod_lt_of_pos _ (by omega))⟩
    · refine iteN (decide_eq_false e) ?_
      refine ⟨_, rfl, st, _, 1, _, rfl, rfl, .of hs, at2b, _, _, rfl, rfl, _, _, rfl, rfl, .inl ⟨by omega, by omega⟩, _, _, rfl, rfl, (by show (0 : Int) < 2147483647; decide), ?_⟩
      refine ⟨_, rfl, st, _, 1, 1, rfl, rfl, hs, rfl, ?_⟩
      have n0 := Int.emod_nonneg ((s + 1) * 48271) (show (2147483647 : Int) ≠ 0 by decide)
      have n1 := Int.emod_lt_of_pos ((s + 1) * 48271) (show (0 : Int) < 2147483647 by decide)
      have h2 : (upd H st (.lst [.int d, .int ((s + 1) * 48271 % 2147483647)])) st = some (.lst [.int d, .int ((s + 1) * 48271 % 2147483647)]) := upd_same
      refine ⟨_, rfl, st, _, 1, _, rfl, rfl, .of h2, at2b, _, rfl, st, _, 1, _, rfl, rfl, .of h2, at2b, _, _, rfl, rfl, .inl ⟨by omega, by omega⟩, _, _, rfl, rfl, (by show (0 : Int) < 2147483629; decide), ?_⟩
      have t0 := Int.emod_nonneg ((s + 1) * 48271 % 2147483647 * ((s + 1) * 48271 % 2147483647)) (show (2147483629 : Int) ≠ 0 by decide)
      have t1 := Int.emod_lt_of_pos ((s + 1) * 48271 % 2147483647 * ((s + 1) * 48271 % 2147483647)) (show (0 : Int) < 2147483629 by decide)
      refine ⟨_, rfl, _, _, rfl, rfl, .inl ⟨?_, ?_⟩, _, _, rfl, rfl, (by show (0 : Int) < 2147483587; decide), _, _, rfl, rfl, ⟨by decide, by decide⟩, _, rfl, _, _, rfl, rfl, (by omega), q _ _ but_upd ⟨d, _, h2, d0, n0, n1⟩ (Int.emod_nonneg _ (by omega)) (Int.emod_lt_of_pos _ (by omega))⟩
      · show -(2 ^ 64) < (s + 1) * 48271 % 2147483647 * ((s + 1) * 48271 % 2147483647) % 2147483629
        omega
      · show (s + 1) * 48271 % 2147483647 * ((s + 1) * 48271 % 2147483647) % 2147483629 < 2 ^ 64
        omega
/-! _law_scale: slots 0:stream -/
abbrev s_law_scale : Stmt := topS 75
theorem sc_law_scale : FnScope ["stream"] ["stream"] (defScope s_law_scale) := ⟨rfl, rfl, rfl, by decide +kernel, rfl, by decide +kernel, by decide +kernel⟩
def sp_law_scale : Sp := fun vs H Q _ => ∃ (st : Addr), vs = [.ref st] ∧ SM H st ∧ ∀ H' g, But st H H' → SM H' st → 1 ≤ g → g ≤ 100000000000000000000000000000 → Q (.int g) H'
theorem ok_law_scale (D : Df K mg "_law_scale" s_law_scale) (G_law_draw : Has P w K mg base 1 "_law_draw" ["stream", "many"] sp_law_draw) : Has P w K mg base 2 "_law_scale" ["stream"] sp_law_scale := by
  refine has_of D sc_law_scale (fun _ _ _ _ _ _ us hl => match us, hl with | [_], _ => rfl) (fun vs H Q E h => ?_) (fun f cdv A outer s₀ H vs Q E hr h => ?_)
  · obtain ⟨a, rfl, _⟩ := h
    rfl
  · obtain ⟨st, rfl, z, q⟩ := h
    refine ⟨_, (pss_one (ps_ret (pe_ix ix_list (pe_lst (pa_cons pe_int (pa_cons pe_int (pa_cons (pe_op op_pow pe_int pe_int) pa_nil)))) (pe_callH G_law_draw (hr.mono (by omega)) (by rfl) (pa_cons (pv 0) (pa_cons pe_int pa_nil))) (fun _ _ => rfl)))), ?_⟩
    refine ⟨_, _, rfl, rfl, ⟨by decide, by decide, by decide⟩, (by show 3 ≤ sizeLine; decide), fun l nl => ?_⟩
    refine ⟨_, rfl, st, 3, rfl, z.same (same_upd nl), by decide, by decide, fun H2 r b2 z2 r0 r1 => ?_⟩
    have hl := b2 _ _ (SM.ne z nl) upd_same
    have bb : But st H H2 := (Same.but (same_upd nl)).trans b2
    have hr3 : r = 0 ∨ r = 1 ∨ r = 2 := by omega
    rcases hr3 with e | e | e
    · subst e
      exact ⟨l, _, 0, _, rfl, rfl, .of hl, rfl, q _ _ bb z2 (by decide) (by decide)⟩
    · subst e
      exact ⟨l, _, 1, _, rfl, rfl, .of hl, rfl, q _ _ bb z2 (by decide) (by decide)⟩
    · subst e
      exact ⟨l, _, 2, _, rfl, rfl, .of hl, rfl, q _ _ bb z2 (by rw [p29]; decide) (by rw [p29]; exact Int.le_refl _)⟩
/-! _law_length: slots 0:sequence 1:kind 2:count -/
abbrev s_law_length : Stmt := topS 76
theorem sc_law_length : FnScope ["sequence", "kind", "count"] ["sequence"] (defScope s_law_length) := ⟨rfl, rfl, rfl, by decide +kernel, rfl, by decide +kernel, by decide +kernel⟩
def sp_law_length : Sp := fun vs H Q _ => ∃ (a : Addr) (rs : List Run), vs = [.ref a] ∧ Runs H a rs ∧ rs.length ≤ 1000 ∧ ∀ H', Same H H' → Q (.int (lenR rs)) H'
theorem ok_law_length (D : Df K mg "_law_length" s_law_length) (T : Tx mg) : Has P w K mg base 1 "_law_length" ["sequence"] sp_law_length := by
  refine has_of D sc_law_length (fun _ _ _ _ _ _ us hl => match us, hl with | [_], _ => rfl) (fun vs H Q E h => ?_) (fun f cdv A outer s H vs Q E hr h => ?_)
  · obtain ⟨v, r, rfl, _⟩ := h
    rfl
  · obtain ⟨a, rs, rfl, ⟨xs, hx, hp⟩, l4, q⟩ := h
    have lx : xs.length = rs.length := Paired.len hp
    refine ⟨_, (pss_one (ps_ret (pe_callB (cr_sum rfl) (by rfl) T.n_sum (by decide +kernel) (pa_cons (pe_lc (own := [("kind", 1), ("count", 2)]) rfl sc_law_length.nd (pi_list (pv 0)) (blkOk_by (N := ["sequence", "kind", "count"]) (sc := defScope s_law_length) (by decide +kernel)) (fun _ _ _ _ _ => (pg_tupK (K := K) (n := 2) rfl rfl (pgs_cons (pg_name (i := 1) sc_law_length.nd rfl (by first | exact Or.inl rfl | exact Or.inr rfl)) (pgs_cons (pg_name (i := 2) sc_law_length.nd rfl (by first | exact Or.inl rfl | exact Or.inr rfl)) pgs_nil)))) (fun _ _ _ _ _ => pts_nil) (fun _ _ _ _ _ => (pv 2))) pa_nil)))), ?_⟩
    refine ⟨_, rfl, a, rfl, ⟨xs, .of hx⟩, fun L nL => lc_list (K := K) (a := a) (xs := xs) (fun i H' => Same H H' ∧ H' L = some (.lst (((rs.map (·.2)).take i).map V.int))) ⟨same_upd nL, upd_same⟩ (fun i H' _ p => .of (p.1 _ _ hx)) (fun i x H2 ex p => ?_) (fun H2 p => ?_)⟩
    · obtain ⟨sm, hL⟩ := p
      obtain ⟨r, er, hr1⟩ := Paired.at hp ex
      have hi : i < xs.length := (List.getElem?_eq_some_iff.mp ex).1
      obtain ⟨t, rfl, ht⟩ := RunV.same sm hr1
      refine ⟨t, _, rfl, .of ht, rfl, _, _, rfl, _, _, rfl, rfl, rfl, yesT ⟨_, rfl, _, hL, ?_, same_grow nL sm, ?_⟩⟩
      · simp only [List.length_map, List.length_take]
        exact small (by omega)
      · rw [upd_same, take_snoc (x := r.2) (by rw [List.getElem?_map, er]; rfl), List.map_append]
        rfl
    · refine ⟨L, (rs.map (fun r : Run => r.2)), rfl, .of ?_, q H2 p.1⟩
      have := p.2
      rw [List.take_of_length_le (by rw [List.length_map]; omega)] at this
      exact this
end
end UP

set_option Elab.async false
set_option linter.all false
set_option maxRecDepth 100000
set_option maxHeartbeats 4000000
namespace UP
open PySem PySem.Spec PyProof.Rows L2
section
variable {X : Cx} {K : PySem.W.Frag}
theorem op_notIn_seqK (h : X.K = K) : OpR X (compareOp .NotIn) (rIn K true) := h ▸ op_notIn_seq
theorem op_in_seqK (h : X.K = K) : OpR X (compareOp .In) (rIn K false) := h ▸ op_in_seq
end
def KsOk (ks : List Str) : Prop := 0 < ks.length ∧ ks.length ≤ 12 ∧ (∀ k ∈ ks, KindOk k) ∧ ∀ (i : Nat) (x y : Str), ks[i]? = some x → ks[i + 1]? = some y → x.cps.toList < y.cps.toList
theorem strR_of {x y : Str} (h : x.cps.toList = y.cps.toList) : x = y := by
  cases x with
  | mk a =>
    cases y with
    | mk b =>
      congr 1
      exact Array.ext' h
theorem rising_next : ∀ (l : List Str) (p : Str), risingS p l = true → ∀ (i : Nat) (x y : Str), (p :: l)[i]? = some x → (p :: l)[i + 1]? = some y → ltCps y.cps.toList x.cps.toList = false
  | [], p, _, i, x, y, _, h2 => by simp at h2
  | z :: t, p, h, 0, x, y, h1, h2 => by
    cases h1
    cases h2
    have h : (!ltCps z.cps.toList p.cps.toList && risingS z t) = true := h
    rw [Bool.and_eq_true] at h
    have := h.1
    cases e : ltCps z.cps.toList p.cps.toList with
    | false => rfl
    | true => rw [e] at this; cases this
  | z :: t, p, h, i + 1, x, y, h1, h2 => by
    have h : (!ltCps z.cps.toList p.cps.toList && risingS z t) = true := h
    rw [Bool.and_eq_true] at h
    exact rising_next t z h.2 i x y h1 h2
theorem ks_of {ks : List Str} (l0 : 0 < ks.length) (l1 : ks.length ≤ 12) (ok : ∀ k ∈ ks, KindOk k) (nd : ks.Nodup ∧ sortedS ks = true) : KsOk ks := by
  refine ⟨l0, l1, ok, fun i x y hx hy => ?_⟩
  cases ks with
  | nil => cases hx
  | cons p t =>
    have h := rising_next t p nd.2 i x y hx hy
    rw [ltCps_eq] at h
    have h := of_decide_eq_false h
    by_cases c : x.cps.toList < y.cps.toList
    · exact c
    · exfalso
      have e : x = y := strR_of (List.le_antisymm h c)
      obtain ⟨h1, e1⟩ := List.getElem?_eq_some_iff.mp hx
      obtain ⟨h2, e2⟩ := List.getElem?_eq_some_iff.mp hy
      have i1 := List.Nodup.idxOf_getElem nd.1 i h1
      have i2 := List.Nodup.idxOf_getElem nd.1 (i + 1) h2
      rw [e1, e] at i1
      rw [e2] at i2
      omega
theorem dp_strl {K : PySem.W.Frag} {H : Hp} : ∀ (l : List Str), DpAll K H (l.map V.str) (l.map PyData.str)
  | [] => .nil
  | x :: t => .cons (.str x) (dp_strl t)
theorem shaped_strl {l : List Str} (h : ∀ s ∈ l, KindOk s) : SeqAt.shaped (.list (l.map PyData.str)) = true := by
  have c : ∀ {l : List Str}, (∀ s ∈ l, KindOk s) → PyData.canLayAll0 (l.map PyData.str) = true ∧ PyData.depthAll (l.map PyData.str) ≤ 1 := by
    intro l h
    induction l with
    | nil => exact ⟨by simp [PyData.canLayAll0], by simp [PyData.depthAll]⟩
    | cons x t ih =>
      obtain ⟨h1, h2⟩ := ih fun s hs => h s (List.mem_cons_of_mem _ hs)
      refine ⟨?_, ?_⟩
      · rw [List.map_cons, PyData.canLayAll0, h1]
        simp [PyData.canLay0, (h x (List.mem_cons_self ..)).str]
      · rw [List.map_cons, PyData.depthAll]
        exact Nat.max_le.mpr ⟨by simp [PyData.depth], h2⟩
  obtain ⟨h1, h2⟩ := c h
  unfold SeqAt.shaped
  rw [PyData.canLay0, h1, PyData.depth]
  exact decide_eq_true (by omega)
theorem eqv_nilS (l : List Str) : PyData.eqv (.list (l.map PyData.str)) (.list []) = l.isEmpty := by
  cases l with
  | nil => simp [PyData.eqv, PyData.eqvAll]
  | cons r t => simp [PyData.eqv, PyData.eqvAll]
theorem filter_snoc {p : Str → Bool} {l : List Str} {i : Nat} {x : Str} (h : l[i]? = some x) : (l.take (i + 1)).filter p = (l.take i).filter p ++ if p x = true then [x] else [] := by
  rw [take_snoc h, List.filter_append]
  congr 1
  cases e : p x <;> simp [e]
theorem str_at {ks : List Str} {i : Nat} {x : V} (h : (ks.map V.str)[i]? = some x) : ∃ k, ks[i]? = some k ∧ x = .str k := by
  rw [List.getElem?_map] at h
  cases e : ks[i]? with
  | none =>
    rw [e] at h
    cases h
  | some n =>
    rw [e] at h
    exact ⟨n, rfl, (Option.some.inj h).symm⟩
theorem empty_iff {l : List Str} : l.isEmpty = true ↔ l = [] := by
  cases l <;> simp
section
variable {P : Program} {w : World} {K : PySem.W.Frag} {mg : Str → Option Value} {base : Heap}
/-! is_kinds: slots 0:value 1:kind 2:following -/
abbrev s_is_kinds : Stmt := topS 21
theorem sc_is_kinds : FnScope ["value", "kind", "following"] ["value"] (defScope s_is_kinds) := ⟨rfl, rfl, rfl, by decide +kernel, rfl, by decide +kernel, by decide +kernel⟩
def sp_is_kinds : Sp := fun vs H Q _ => ∃ (a : Addr) (ks : List Str), vs = [.ref a] ∧ Sq2 H a (ks.map V.str) ∧ KsOk ks ∧ ∀ H', Same H H' → Q (.bl true) H'
theorem ok_is_kinds (D : Df K mg "is_kinds" s_is_kinds) (T : Tx mg) (G_is_listed : Has P w K mg base 1 "is_listed" ["value", "most"] sp_is_listed) (G_is_kind : Has P w K mg base 1 "is_kind" ["value"] sp_is_kind) : Has P w K mg base 2 "is_kinds" ["value"] sp_is_kinds := by
  refine has_of D sc_is_kinds (fun _ _ _ _ _ _ us hl => match us, hl with | [_], _ => rfl) (fun vs H Q E h => ?_) (fun f cdv A outer s H vs Q E hr h => ?_)
  · obtain ⟨v, r, rfl, _⟩ := h
    rfl
  · obtain ⟨a, ks, rfl, hx, ⟨l0, l1, okk, asc⟩, q⟩ := h
    refine ⟨_, (pss_cons (ps_if (PW.pt (pw_or (pt_not (pt_val (pe_callH G_is_listed (hr.mono (by omega)) (by rfl) (pa_cons (pv 0) (pa_cons (pe_glI T.c_MAX_KINDS (by rfl)) pa_nil))))) (pw_or (pt_cmpR op_eq (pe_callB call_len_seq (by rfl) T.n_len (by decide +kernel) (pa_cons (pv 0) pa_nil)) pe_int (nomark _)) (pw_or1 (pt_not (pt_val (pe_callB (cr_all rfl) (by rfl) T.n_all (by decide +kernel) (pa_cons (pe_lc (own := [("kind", 1)]) rfl sc_is_kinds.nd (pi_seqV 0) (blkOk_by (N := ["value", "kind", "following"]) (sc := defScope s_is_kinds) (by decide +kernel)) (fun _ _ _ _ _ => (pg_name (i := 1) sc_is_kinds.nd rfl (by first | exact Or.inl rfl | exact Or.inr rfl))) (fun _ _ _ _ _ => pts_nil) (fun _ _ _ _ _ => (pe_callH G_is_kind (hr.mono (by omega)) (by rfl) (pa_cons (pv 1) pa_nil)))) pa_nil)))))))) (pss_one (ps_ret pe_bl)) pss_nil)
    (pss_one (ps_ret (pe_callB (cr_all rfl) (by rfl) T.n_all (by decide +kernel) (pa_cons (pe_lc (own := [("kind", 1), ("following", 2)]) rfl sc_is_kinds.nd (pi_zip1 (i := 0) (RZ.pi_zipA (by rfl) T.n_zip (pa_cons (pv 0) (pa_cons (pe_slice (SlR.or sl_list sl_tupA) (pv 0) (po_some pe_int) po_none) pa_nil))) (fun _ _ _ q => ⟨1, rfl, q⟩) (fun _ _ _ q => q)) (blkOk_by (N := ["value", "kind", "following"]) (sc := defScope s_is_kinds) (by decide +kernel)) (fun _ _ _ _ _ => (pg_tupK (K := K) (n := 2) rfl rfl (pgs_cons (pg_name (i := 1) sc_is_kinds.nd rfl (by first | exact Or.inl rfl | exact Or.inr rfl)) (pgs_cons (pg_name (i := 2) sc_is_kinds.nd rfl (by first | exact Or.inl rfl | exact Or.inr rfl)) pgs_nil)))) (fun _ _ _ _ _ => pts_nil) (fun _ _ _ _ _ => (pe_cmpR op_lt_str (pv 1) (pv 2) (nomark _)))) pa_nil))))), ?_⟩
    refine ⟨_, rfl, a, _, 12, rfl, hx, fun H1 s1 => ⟨_, rfl, iteN ?_ ?_⟩⟩
    · show (!decide (((ks.map V.str).length : Int) ≤ 12)) = false
      rw [List.length_map, decide_eq_true (by omega)]
      rfl
    refine ⟨_, rfl, a, _, rfl, (hx.same s1).elim (fun z => .inl (.of z)) (fun z => .inr (.of z)), rfl, _, rfl, iteN ?_ ?_⟩
    · refine decide_eq_false fun z => ?_
      have z := V.int.inj z
      rw [List.length_map] at z
      omega
    refine ⟨a, _, rfl, hx.same s1, fun J wk L nL => lc_wk wk (fun i H' => Same H1 H' ∧ H' L = some (.lst ((List.replicate i true).map V.bl))) (fun _ _ p => p.1) ⟨same_upd nL, upd_same⟩ (fun i x H2 ex p => ?_) (fun H2 p => ?_)⟩
    · obtain ⟨sm, hL⟩ := p
      obtain ⟨k, ek, rfl⟩ := str_at ex
      have hi : i < ks.length := (List.getElem?_eq_some_iff.mp ek).1
      refine ⟨rfl, yesT ⟨_, rfl, k, rfl, okk k (List.mem_of_getElem? ek), fun H3 s3 => ⟨_, s3 _ _ hL, ?_, same_grow nL (sm.trans s3), ?_⟩⟩⟩
      · simp only [List.length_map, List.length_replicate]
        exact small (by omega)
      · rw [upd_same, List.replicate_succ', List.map_append]
        rfl
    · refine ⟨L, _, rfl, .of p.2, _, rfl, iteN ?_ ?_⟩
      · rw [all_rep]
        rfl
      have s2 : Same H H2 := s1.trans p.1
      refine ⟨a, _, rfl, hx.same s2, fun J Hc sc wk M nM => ?_⟩
      have sA : Same H Hc := s2.trans sc
      refine lc_gen (n := (ks.map V.str).length - 1) (fun i H' => Same Hc H' ∧ H' M = some (.lst ((List.replicate i true).map V.bl))) ⟨same_upd nM, upd_same⟩ (fun i H' hi p => wk.go i H' p.1 (by omega)) (fun H' p => wk.stop H' p.1) (fun i x H3 H4 hi p y => ?_) (fun H' p => ?_)
      · obtain ⟨T', x1, x2, rfl, nT, rfl, g1, g2⟩ := wk.yld i x H3 H4 p.1 y
        obtain ⟨sm, hM⟩ := p
        have g2 := g2 (by omega)
        obtain ⟨k1, e1, rfl⟩ := str_at g1
        obtain ⟨k2, e2, rfl⟩ := str_at g2
        have hi2 : i < ks.length := (List.getElem?_eq_some_iff.mp e1).1
        refine ⟨T', _, rfl, .of upd_same, rfl, _, _, rfl, _, _, rfl, rfl, rfl, yesT ?_⟩
        refine ⟨_, rfl, _, rfl, _, _, rfl, rfl, _, same_upd nT _ _ hM, ?_, same_grow nM (sm.trans (same_upd nT)), ?_⟩
        · simp only [List.length_map, List.length_replicate]
          exact small (by omega)
        · rw [upd_same, List.replicate_succ', List.map_append, decide_eq_true (asc i k1 k2 e1 e2)]
          rfl
      · refine ⟨M, _, rfl, .of p.2, ?_⟩
        rw [all_rep]
        exact q _ (sA.trans p.1)
/-! check_kinds: slots 0:kinds -/
abbrev s_check_kinds : Stmt := topS 28
theorem sc_check_kinds : FnScope ["kinds"] ["kinds"] (defScope s_check_kinds) := ⟨rfl, rfl, rfl, by decide +kernel, rfl, by decide +kernel, by decide +kernel⟩
def sp_check_kinds : Sp := fun vs H Q _ => ∃ (a : Addr) (ks : List Str), vs = [.ref a] ∧ Sq2 H a (ks.map V.str) ∧ KsOk ks ∧ ∀ H', Same H H' → Q .non H'
theorem ok_check_kinds (D : Df K mg "check_kinds" s_check_kinds) (G_is_kinds : Has P w K mg base 2 "is_kinds" ["value"] sp_is_kinds) : Has P w K mg base 3 "check_kinds" ["kinds"] sp_check_kinds := by
  refine has_of D sc_check_kinds (fun _ _ _ _ _ _ us hl => match us, hl with | [_], _ => rfl) (fun vs H Q E h => ?_) (fun f cdv A outer s H vs Q E hr h => ?_)
  · obtain ⟨v, r, rfl, _⟩ := h
    rfl
  · obtain ⟨a, ks, rfl, hx, ok, q⟩ := h
    refine ⟨_, (pss_one (ps_if (pt_not (pt_val (pe_callH G_is_kinds (hr.mono (by omega)) (by rfl) (pa_cons (pv 0) pa_nil)))) (pss_one ps_never) pss_nil)), ?_⟩
    exact ⟨_, rfl, a, ks, rfl, hx, ok, fun H1 s1 => ⟨_, rfl, iteF (q _ s1)⟩⟩
end
end UP
set_option Elab.async false
set_option linter.all false
set_option maxRecDepth 100000
set_option maxHeartbeats 4000000
/-! ### sorted(d.items()), d a dict of texts with ints -/
namespace UPS
open PySem PyProof.Rows SrtO Srt
def lexS (p q : Str × Int) : Bool := if p.1 = q.1 then decide (p.2 < q.2) else decide (p.1.cps.toList < q.1.cps.toList)
theorem lexS_no {p q : Str × Int} : lexS p q = false ↔ (p.1 = q.1 → ¬ p.2 < q.2) ∧ (p.1 ≠ q.1 → ¬ p.1.cps.toList < q.1.cps.toList) := by
  unfold lexS
  by_cases e : p.1 = q.1
  · rw [if_pos e, decide_eq_false_iff_not]
    exact ⟨fun h => ⟨fun _ => h, fun n => absurd e n⟩, fun h => h.1 e⟩
  · rw [if_neg e, decide_eq_false_iff_not]
    exact ⟨fun h => ⟨fun z => absurd z e, fun _ => h⟩, fun h => h.2 e⟩
theorem str_of {x y : Str} (h : x.cps.toList = y.cps.toList) : x = y := by
  cases x with
  | mk a =>
    cases y with
    | mk b =>
      congr 1
      exact Array.ext' h
theorem swoS : Swo lexS := by
  refine ⟨fun x y h => ?_, fun x y z h1 h2 => ?_⟩
  · refine lexS_no.mpr ⟨fun e => ?_, fun n => ?_⟩
    · unfold lexS at h
      rw [if_pos e.symm] at h
      have := of_decide_eq_true h
      omega
    · unfold lexS at h
      rw [if_neg fun z => n z.symm] at h
      exact List.lt_asymm (of_decide_eq_true h)
  · have a := lexS_no.mp h1
    have b := lexS_no.mp h2
    refine lexS_no.mpr ⟨fun e => ?_, fun n => ?_⟩
    · by_cases c : y.1 = x.1
      · have := a.1 c
        have := b.1 (e.trans c.symm)
        omega
      · exfalso
        have p := a.2 c
        have q := b.2 fun w => c (w.symm.trans e)
        rw [e] at q
        exact c (str_of (List.le_antisymm q p))
    · by_cases c : y.1 = x.1
      · rw [← c]
        exact b.2 fun w => n (w.trans c)
      · by_cases d : z.1 = y.1
        · rw [d]
          exact a.2 c
        · exact List.le_trans (a.2 c) (b.2 d)
/-- a tuple of a text and an int -/
def IsSI (h : Heap) (v : Value) (x : Str) (y : Int) : Prop := ∃ a o t u n, v = .ref a ∧ h.get? a = some o ∧ o.cls = .type "tuple" ∧ o.data = .seq #[.str x t, .int y u] n
theorem IsSI.keeps {h h' : Heap} {v : Value} {x : Str} {y : Int} (p : IsSI h v x y) (k : ∀ b o, h.get? b = some o → o.cls = .type "tuple" → h'.get? b = some o) : IsSI h' v x y := by
  obtain ⟨a, o, t, u, n, e, ho, hc, hd⟩ := p
  exact ⟨a, o, t, u, n, e, k _ _ ho hc, hc, hd⟩
theorem firsts_si {h : Heap} : ∀ {vs : List Value}, (∀ v ∈ vs, ∃ x y, IsSI h v x y) → ∃ fs : List Value, PySem.W.KatTups h vs fs ∧ fs.length = vs.length ∧ ∀ f ∈ fs, ∃ x t, f = Value.str x t
  | [], _ => ⟨[], PySem.W.KatTups.nil, rfl, fun f hf => by simp at hf⟩
  | v :: vs, x => by
    obtain ⟨fs, k, hl, hi⟩ := firsts_si (vs := vs) fun u hu => x u (List.mem_cons_of_mem _ hu)
    obtain ⟨y, z, a, o, t, u, n, rfl, ho, hc, hd⟩ := x v (List.mem_cons_self ..)
    refine ⟨.str y t :: fs, PySem.W.KatTups.cons ho hc hd rfl k, congrArg Nat.succ hl, fun f hf => ?_⟩
    rcases List.mem_cons.mp hf with e | e
    · exact ⟨y, t, e⟩
    · exact hi f e
section
variable {prog : Program} {w : World} {A : Around} {s : Shared} {E : Value → Shared → Prop}
theorem si_cmp {vs : List Value} {k : Value → Str × Int} (hp : ∀ v ∈ vs, IsSI s.heap v (k v).1 (k v).2) : Cmp prog w A s (tuples' true) (fun p => p.1 ∈ vs) (lt2 fun v u => lexS (k v) (k u)) := by
  intro p q hm hm'
  have h1 := hp _ hm
  have h2 := hp _ hm'
  show wpAny (model prog w) A (keyLt' (tuples' true) p.1 q.1) (fun r s' => s' = s ∧ r = lexS (k p.1) (k q.1)) (fun _ _ => False) s
  unfold lexS
  generalize (k p.1).1 = x at h1 ⊢
  generalize (k p.1).2 = y at h1 ⊢
  generalize (k q.1).1 = x' at h2 ⊢
  generalize (k q.1).2 = y' at h2 ⊢
  obtain ⟨a, o, t, u, n, e, ho, hc, hd⟩ := h1
  obtain ⟨a', o', t', u', n', e', ho', hc', hd'⟩ := h2
  rw [e, e']
  refine PySem.W.kat_lt ho hd ho' hd' ?_
  show PySem.W.KatLex prog w A true (decide (2 < 2)) _ [(.str x t, .str x' t'), (.int y u, .int y' u')] 0 s
  refine PySem.W.kat_cons (SeqAt.EqAt.str_str x t x' t' prog w _ _ ?_)
  refine PySem.W.kat_go (fun e1 => ?_) (fun e1 => ?_)
  · have ex : x = x' := by simpa using e1
    refine PySem.W.kat_yes (PySem.W.kat_cons (SeqAt.EqAt.int_int y u y' u' prog w _ _ ?_))
    refine PySem.W.kat_go (fun e2 => ?_) (fun e2 => ?_)
    · have ey : y = y' := by simpa using e2
      have e3 : (if x = x' then decide (y < y') else decide (x.cps.toList < x'.cps.toList)) = false := by
        rw [if_pos ex, ey]
        exact decide_eq_false (Int.lt_irrefl _)
      exact PySem.W.kat_yes (PySem.W.kat_nil ⟨rfl, e3.symm⟩)
    · have e3 : (if x = x' then decide (y < y') else decide (x.cps.toList < x'.cps.toList)) = decide (y < y') := if_pos ex
      refine PySem.W.kat_no (PySem.W.kat_one _ _ (PyProof.Rows.lt_int ?_))
      exact (show s = s ∧ decide (y < y') = (if x = x' then decide (y < y') else decide (x.cps.toList < x'.cps.toList)) from ⟨rfl, e3.symm⟩)
  · have ex : ¬ x = x' := by simpa using e1
    have e3 : (if x = x' then decide (y < y') else decide (x.cps.toList < x'.cps.toList)) = decide (x.cps.toList < x'.cps.toList) := if_neg ex
    exact PySem.W.kat_no (PyProof.Rows.oneLt_str ⟨rfl, e3.symm⟩)
theorem si_sortable {a : Addr} {vs : List Value} {k : Value → Str × Int} (h0 : 0 < vs.length) (hp : ∀ v ∈ vs, IsSI s.heap v (k v).1 (k v).2) (ha : ∀ o, s.heap.get? a = some o → o.cls ≠ .type "tuple") : SortableO prog w A s a vs fun v u => lexS (k v) (k u) := by
  intro h' keep
  have hp' : ∀ v ∈ vs, IsSI h' v (k v).1 (k v).2 := fun v hm => (hp v hm).keeps fun b o e c => keep b o (fun z => by subst z; exact ha o e c) e
  obtain ⟨fs, h1, h2, h3⟩ := firsts_si fun v hm => ⟨_, _, hp' v hm⟩
  refine ⟨tuples' true, fun Q E hq => ?_, si_cmp hp'⟩
  refine PySem.W.kat_kind (T := .type "str") h1 (by omega) (fun f hm => ?_) (by rfl) ?_
  · obtain ⟨x, t, rfl⟩ := h3 f hm
    exact PySem.W.Looks.now
  · have e : (Value.type "str" != Value.type "tuple") = true := by first | decide +kernel | rfl | decide
    rw [e]
    exact hq
end
end UPS
namespace UP
open PySem PySem.Spec PyProof.Rows L2 L2.DX
abbrev entK (e : Str × Int) : L2.Key × V := (Sum.inr e.1, V.int e.2)
def rItemsK : V → List V → Hp → VK → Prop := fun x xs H Q => ∃ (a : Addr) (kvs : List (L2.Key × V)), x = .ref a ∧ xs = [] ∧ H a = some (.dK kvs) ∧ ∀ p, H p = none → Q (.ref p) (upd H p (itemsO p a))
def rSortKI : List V → Hp → VK → Prop := fun vs H Q => ∃ (p a : Addr) (ks : List Run), vs = [.ref p] ∧ H p = some (itemsO p a) ∧ H a = some (.dK (ks.map entK)) ∧
  ∀ H' l out, Same H H' → H l = none → Runs H' l out → out.Perm ks → out.Pairwise (fun x y => UPS.lexS y x = false) → Q (.ref l) H'
section
variable {X : Cx}
theorem mt_itemsK : MtR X "dict.items" rItemsK := by
  intro pins s σ H x xs v us Q I rx rxs h
  obtain ⟨a, kvs, rfl, rfl, ha, q⟩ := h
  cases rx
  cases rxs
  obtain ⟨z, hd, vs, rel, dd⟩ := dk_of I.hok ha
  obtain ⟨es, ep, hr, _⟩ := dd.raw
  refine DT.callItems (es := es) (ep := ep) hd hr ?_
  have hf : H s.heap.objs.size = none := I.hok.fresh (Nat.le_refl _)
  exact ⟨.ref s.heap.objs.size, upd H s.heap.objs.size (itemsO s.heap.objs.size a), I.laid (t' := s.toks) (fun b u e => Heap.get?_push_of_some _ e) (Nat.le_refl _) (itemsO_ok (Heap.get?_push_size _ rfl)), rfl, q _ hf⟩
theorem kV_str {k : Str} {P : Program} {w : World} {u : Value} (h : (mixKind P w).is (Sum.inr k) u = true) : ∃ t, u = .str k t := Value.isStrOf_shape h
theorem paired_of {α β : Type} {F : α → β → Prop} : ∀ (l : List α) (f : α → β), (∀ a ∈ l, F a (f a)) → Paired F l (l.map f)
  | [], _, _ => .nil
  | a :: t, f, h => .cons (h a (List.mem_cons_self ..)) (paired_of t f fun b hb => h b (List.mem_cons_of_mem _ hb))
theorem paired_map {α α' β β' : Type} {F : α' → β' → Prop} (f : α → α') (g : β → β') : ∀ {l : List α} {m : List β}, Paired (fun a b => F (f a) (g b)) l m → Paired F (l.map f) (m.map g)
  | _, _, .nil => .nil
  | _, _, .cons h t => .cons h (paired_map f g t)
theorem cr_sortedKI (hc : X.calm = true) : CallR X (.builtin "sorted") rSortKI := by
  intro pins s σ H xs us Q I r h
  obtain ⟨p, a, ks, rfl, hp, ha, q⟩ := h
  obtain rfl := Vals.ref1 r
  have view : s.heap.IsItemsView p a := (show ObjOk X.prog X.w H s.heap p (itemsO p a) from I.hok p _ hp).1
  obtain ⟨z, hd, vs, rel, dd⟩ := dk_of I.hok ha
  obtain ⟨es, ep, hr, hsz, hget⟩ := dd.raw
  have l1 : (ks.map entK).length = vs.length := rel.length
  rw [List.length_map] at l1 z
  have hh : X.A.handled = none := I.ok.hd hc
  refine DT.sortedI (es := es) (ep := ep) hh view hr (by omega) fun h' tk as hk hlt hl hG => ?_
  have lak : as.length = ks.length := by omega
  have nd : as.Nodup := List.Pairwise.imp (fun h => Nat.ne_of_lt h) hG.rise
  -- the pairs that were made
  have pr : ∀ (j : Nat) (b : Addr), as[j]? = some b → ∃ (e : Run) (t u : Tok), ks[j]? = some e ∧ h'.get? b = some { cls := .type "tuple", data := .seq #[Value.str e.1 t, Value.int e.2 u] } := by
    intro j b hj
    obtain ⟨en, he, hg⟩ := hG.pairs j b hj
    have hjs : j < es.size := (Array.getElem?_eq_some_iff.mp he).1
    have hjk : j < ks.length := by omega
    have een : es[j] = en := (Array.getElem?_eq_some_iff.mp he).2
    have hjv : j < vs.length := by omega
    obtain ⟨y, ey, r1, r2⟩ := pget rel (List.getElem?_eq_getElem hjv)
    rw [List.getElem?_map, List.getElem?_eq_getElem hjk] at ey
    have ey : entK ks[j] = y := Option.some.inj ey
    have hv : vs[j]? = some ((Sum.inr (ks[j]).1 : L2.Key), (vs[j]).2) := by
      rw [List.getElem?_eq_getElem hjv]
      congr 1
      refine Prod.ext ?_ rfl
      rw [← r1, ← ey]
    obtain ⟨g1, g2⟩ := hget j hjs _ _ hv
    obtain ⟨t, et⟩ := kV_str g1
    rw [← ey] at r2
    obtain ⟨u, eu⟩ := (show ∃ u, (vs[j]).2 = Value.int (ks[j]).2 u from r2)
    refine ⟨ks[j], t, u, List.getElem?_eq_getElem hjk, ?_⟩
    rw [hg, ← een, et, g2, eu]
  have hob : (h'.push { cls := .type "list", data := .seq (as.map Value.ref).toArray }).get? h'.objs.size = some (seqObj "list" (as.map Value.ref).toArray 0) := Heap.get?_push_size _ rfl
  have kb : ∀ b o, s.heap.get? b = some o → (h'.push { cls := .type "list", data := .seq (as.map Value.ref).toArray }).get? b = some o := fun b o e => Heap.get?_push_of_some _ (hk b o e)
  have ne0 : ∀ b o, h'.get? b = some o → b ≠ h'.objs.size := fun b o e => Nat.ne_of_lt (Heap.lt_size e)
  generalize hh2 : h'.push { cls := .type "list", data := .seq (as.map Value.ref).toArray } = h2 at hob kb ⊢
  have ka : ∀ b o, h'.get? b = some o → h2.get? b = some o := fun b o e => by rw [← hh2]; exact Heap.get?_push_of_some _ e
  -- what stands for what
  obtain ⟨kf, hkf⟩ : ∃ kf : Value → Str × Int, ∀ (j : Nat) (b : Addr), as[j]? = some b → ks[j]? = some (kf (.ref b)) := by
    refine ⟨fun v => match v with | .ref b => (ks[as.idxOf b]?).getD ("", 0) | _ => ("", 0), fun j b hj => ?_⟩
    obtain ⟨hjl, ej⟩ := List.getElem?_eq_some_iff.mp hj
    have ei : as.idxOf b = j := by
      rw [← ej]
      exact List.Nodup.idxOf_getElem nd j hjl
    show ks[j]? = some ((ks[as.idxOf b]?).getD ("", 0))
    rw [ei, List.getElem?_eq_getElem (by omega)]
    rfl
  have pin : ∀ v ∈ as.map Value.ref, UPS.IsSI h2 v (kf v).1 (kf v).2 := by
    intro v hv'
    obtain ⟨b, hb, rfl⟩ := List.mem_map.mp hv'
    obtain ⟨j, hj⟩ := List.mem_iff_getElem?.mp hb
    obtain ⟨e, t, u, he, hg⟩ := pr j b hj
    have ek := hkf j b hj
    rw [he] at ek
    have ek := Option.some.inj ek
    rw [← ek]
    exact ⟨b, _, t, u, 0, rfl, ka _ _ hg, rfl, rfl⟩
  refine wpAny_call_entry PyProof.Rows.slot_list_sort ⟨_, hob, rfl⟩ PyProof.Rows.entry_list_sort
    (SrtO.list_sort_ord (s := { s with heap := h2, toks := tk }) (ltv := fun v u => UPS.lexS (kf v) (kf u)) ⟨fun x y => UPS.swoS.asym _ _, fun x y z => UPS.swoS.tr _ _ _⟩ hob (by rw [List.length_map]; omega) (fun h2' => ?_) fun out hs hb => ⟨_, rfl, ?_⟩) (PyProof.Rows.args_list_sort _)
  · refine UPS.si_sortable (s := { s with heap := h2, toks := tk }) (by omega) pin fun o e => ?_
    have e' : some o = some (seqObj "list" (as.map Value.ref).toArray 0) := e.symm.trans hob
    cases e'
    intro c
    exact absurd (Value.type.inj c) (by decide)
  · show EP X pins σ Q (.ref h'.objs.size) { s with heap := sortedHeap h2 h'.objs.size (as.map Value.ref) out.toArray, toks := tk }
    obtain ⟨zs, pz, ez⟩ : ∃ zs : List Addr, zs.Perm as ∧ zs.map Value.ref = out := by
      have := hb.perm
      obtain ⟨zs, p1, p2⟩ := perm_lift Value.ref this as rfl
      exact ⟨zs, p1, p2⟩
    have kF : ∀ b o, b ≠ h'.objs.size → h2.get? b = some o → (sortedHeap h2 h'.objs.size (as.map Value.ref) out.toArray).get? b = some o := fun b o hb e => (PyProof.Rows.sortedHeap_old hb (Heap.lt_size e)).trans e
    have kS : ∀ b o, s.heap.get? b = some o → (sortedHeap h2 h'.objs.size (as.map Value.ref) out.toArray).get? b = some o := fun b o e => kF b o (ne0 _ _ (hk b o e)) (kb b o e)
    obtain ⟨eF, heF⟩ := PyProof.Rows.sortedHeap_at (vs := as.map Value.ref) (out := out.toArray) hob
    have I1 : Inv X pins σ H { s with heap := sortedHeap h2 h'.objs.size (as.map Value.ref) out.toArray, toks := tk } := I.kept (t' := tk) kS
    have hn0 : H h'.objs.size = none := I.hok.fresh (Nat.le_of_lt hlt)
    have lz : zs.length = ks.length := by rw [pz.length_eq, lak]
    have I2 : Inv X pins σ (upd H h'.objs.size (.lst (zs.map V.ref))) { s with heap := sortedHeap h2 h'.objs.size (as.map Value.ref) out.toArray, toks := tk } :=
      I1.take (h' := sortedHeap h2 h'.objs.size (as.map Value.ref) out.toArray) (t' := tk) (fun b ob _ e => e) (I.fpOk (Nat.le_of_lt hlt) hn0) ⟨by rw [List.length_map, lz]; exact z, out, eF, by rw [← ez]; exact vals_maps (fun z : Addr => V.ref z) (fun z => Value.ref z) zs fun _ _ => rfl, heF⟩
    obtain ⟨H2, I3, g, qt⟩ := takeT (P := fun b vs => vs = [.str (kf (.ref b)).1, .int (kf (.ref b)).2]) I as _ I2 nd fun b hb => by
      obtain ⟨j, hj⟩ := List.mem_iff_getElem?.mp hb
      obtain ⟨e, t, u, he, hg⟩ := pr j b hj
      have ek := hkf j b hj
      rw [he] at ek
      have ek := Option.some.inj ek
      have hbl : s.heap.objs.size ≤ b := Nat.le_of_lt (hG.above b hb)
      refine ⟨hbl, ?_, [.str e.1, .int e.2], by rw [← ek], fun H3 => ⟨(by rw [sizeLine_eq]; show 2 ≤ 16777216; omega), [Value.str e.1 t, Value.int e.2 u], .cons ⟨t, rfl⟩ (.cons ⟨u, rfl⟩ .nil), ⟨_, kF _ _ (ne0 _ _ hg) (ka _ _ hg), rfl, 0, rfl⟩⟩⟩
      rw [upd_ne (ne0 _ _ hg)]
      exact I.hok.fresh hbl
    have gr : Same H H2 := fun b o e => g b o (by rw [upd_ne (ne_of_none e hn0)]; exact e)
    refine ⟨.ref h'.objs.size, H2, I3, rfl, q H2 h'.objs.size (zs.map fun b => kf (.ref b)) gr hn0 ⟨zs.map V.ref, g _ _ upd_same, ?_⟩ ?_ ?_⟩
    · refine paired_map V.ref (fun b => kf (.ref b)) ?_
      have := paired_of (F := fun (b : Addr) (c : Addr) => RunV H2 (V.ref b) (kf (.ref c))) zs id fun b hb => by
        obtain ⟨vs', e1, e2⟩ := qt b (pz.mem_iff.mp hb)
        rw [e1] at e2
        exact ⟨b, rfl, e2⟩
      rw [List.map_id] at this
      exact this
    · have e1 : (as.map fun b => kf (.ref b)) = ks := by
        refine List.ext_getElem? fun j => ?_
        rw [List.getElem?_map]
        cases hj : as[j]? with
        | none =>
          have : as.length ≤ j := List.getElem?_eq_none_iff.mp hj
          rw [List.getElem?_eq_none_iff.mpr (by omega)]
          rfl
        | some b =>
          rw [hkf j b hj]
          rfl
      rw [← e1]
      exact pz.map _
    · have hs : out.Pairwise (fun v u => UPS.lexS (kf u) (kf v) = false) := hs
      rw [← ez, List.pairwise_map] at hs
      rw [List.pairwise_map]
      exact hs
/-! ### sorted(list of runs) -/
def kyR (H : Hp) : V → Run
  | .ref t => match H t with
    | some (.tup [.str a, .int b]) => (a, b)
    | _ => ("", 0)
  | _ => ("", 0)
theorem kyR_of {H : Hp} {v : V} {r : Run} (h : RunV H v r) : kyR H v = r := by
  obtain ⟨t, rfl, ht⟩ := h
  show (match H t with | some (.tup [.str a, .int b]) => (a, b) | _ => (("" : Str), (0 : Int))) = r
  rw [ht]
def rSortR : List V → Hp → VK → Prop := fun vs H Q => ∃ (a : Addr) (ks : List Run), vs = [.ref a] ∧ Runs H a ks ∧
  ∀ H' l out, Same H H' → H l = none → Runs H' l out → out.Perm ks → out.Pairwise (fun x y => UPS.lexS y x = false) → Q (.ref l) H'
theorem kyR_map {H : Hp} : ∀ {xs : List V} {ks : List Run}, Paired (RunV H) xs ks → xs.map (kyR H) = ks
  | _, _, .nil => rfl
  | _, _, .cons h t => by rw [List.map_cons, kyR_of h, kyR_map t]
theorem paired_ky {H : Hp} : ∀ (xs : List V), (∀ x ∈ xs, ∃ r, RunV H x r) → Paired (RunV H) xs (xs.map (kyR H))
  | [], _ => .nil
  | x :: t, h => by
    obtain ⟨r, hr⟩ := h x (List.mem_cons_self ..)
    refine .cons ?_ (paired_ky t fun y hy => h y (List.mem_cons_of_mem _ hy))
    rw [kyR_of hr]
    exact hr
theorem paired_mem {α β : Type} {F : α → β → Prop} : ∀ {xs : List α} {ys : List β}, Paired F xs ys → ∀ x ∈ xs, ∃ y, F x y
  | _, _, .cons h t, x, hx => by
    rcases List.mem_cons.mp hx with e | hx
    · rw [e]
      exact ⟨_, h⟩
    · exact paired_mem t x hx
theorem cr_sortedR : CallR X (.builtin "sorted") rSortR := by
  intro pins s σ H vs us Q I r h
  obtain ⟨a, ks, rfl, ⟨xs, hx, hp⟩, q⟩ := h
  obtain ⟨its, rv, hl, hz⟩ := I.list (SqL.of hx)
  obtain rfl := Vals.ref1 r
  obtain ⟨e1, e2⟩ := refs_back rv fun x m => by
    obtain ⟨y, t, e, _⟩ := paired_mem hp x m
    exact ⟨t, e⟩
  refine SrtO.sorted_ord (ltv := fun v u => UPS.lexS (kyR H (backV v)) (kyR H (backV u))) ⟨fun x y => UPS.swoS.asym _ _, fun x y z => UPS.swoS.tr _ _ _⟩ hl.isList (by rw [← rv.length]; exact hz) (fun h2 h₁ a' ha kk => ?_) fun out hs hb => ?_
  · refine UPS.si_sortable (s := { s with heap := h₁ }) (k := fun u => kyR H (backV u)) (by omega) (fun v hv => ?_) fun o e => ?_
    · obtain ⟨t, rfl⟩ := e2 v hv
      have hm : V.ref t ∈ xs := by rw [e1]; exact List.mem_map.mpr ⟨_, hv, rfl⟩
      obtain ⟨y, hy⟩ := paired_mem hp _ hm
      rw [show kyR H (backV (.ref t)) = y from kyR_of hy]
      obtain ⟨t', e, ht⟩ := hy
      cases e
      obtain ⟨_, its2, r2, o, ho, hc, n, hd⟩ := I.hok _ _ ht
      obtain ⟨u1, u2, rfl, ri, rj⟩ := vals2 r2
      obtain ⟨t1, rfl⟩ := ri
      obtain ⟨t2, rfl⟩ := rj
      exact ⟨t, o, t1, t2, n, rfl, (kk _ _ ho).2, hc, hd⟩
    · have e' : some o = some (seqObj "list" its.toArray 0) := e.symm.trans ha
      cases e'
      intro c
      exact absurd (Value.type.inj c) (by decide)
  · have h3 : ∀ u ∈ out, ∃ a, u = Value.ref a := fun u hu => e2 u (hb.perm.mem_iff.mp hu)
    obtain ⟨n, hn⟩ := sortedAll_at s.heap its out.toArray
    have pm : (out.map backV).Perm xs := by
      rw [e1]
      exact hb.perm.map backV
    have hd : s.heap.objs.size ≤ s.heap.objs.size + 1 := Nat.le_succ _
    have hn0 := I.hok.fresh hd
    refine ⟨.ref _, upd H (s.heap.objs.size + 1) (.lst (out.map backV)), I.laid (t' := s.toks) (fun b o e => sortedAll_old e) hd ⟨?_, out, n, vals_back h3, hn⟩, rfl, q _ _ ((out.map backV).map (kyR H)) (same_upd hn0) hn0 ⟨_, upd_same, ?_⟩ ?_ ?_⟩
    · rw [pm.length_eq]
      exact hz
    · exact Paired.imp (fun _ _ => RunV.same (same_upd hn0)) (paired_ky _ fun x hx => paired_mem hp x (pm.mem_iff.mp hx))
    · rw [← kyR_map hp]
      exact pm.map _
    · rw [List.pairwise_map, List.pairwise_map]
      exact hs
end
end UP

set_option Elab.async false
set_option linter.all false
set_option maxRecDepth 100000
set_option maxHeartbeats 4000000
namespace UP
open PySem PySem.Spec PyProof.Rows L2 L2.DX
/-! ### kinds counted -/
structure CT (ks : List Run) (its : List Str) : Prop where
  nd : (ks.map (·.1)).Nodup
  val : ∀ e ∈ ks, e.2 = ((its.count e.1 : Nat) : Int)
  cov : ∀ k, k ∈ its ↔ k ∈ ks.map (·.1)
  sum : (ks.map (·.2)).sum = (its.length : Int)
theorem CT.nil : CT [] [] := ⟨List.nodup_nil, (fun e h => by cases h), (fun k => Iff.rfl), rfl⟩
theorem sum_perm {l m : List Run} (h : l.Perm m) : (l.map (·.2)).sum = (m.map (·.2)).sum := by
  induction h with
  | nil => rfl
  | cons x _ ih => rw [List.map_cons, List.map_cons, List.sum_cons, List.sum_cons, ih]
  | swap x y l =>
    simp only [List.map_cons, List.sum_cons]
    omega
  | trans _ _ h1 h2 => exact h1.trans h2
theorem CT.perm {l m : List Run} {its : List Str} (h : l.Perm m) (c : CT m its) : CT l its :=
  ⟨(h.map _).symm.nodup c.nd, fun e he => c.val e (h.mem_iff.mp he), fun k => (c.cov k).trans (h.map _).mem_iff.symm, (sum_perm h).trans c.sum⟩
theorem val_ent {ks : List Run} {k : Str} : valV (ks.map entK) (Sum.inr k) = (ks.find? fun e => decide (e.1 = k)).map fun e => V.int e.2 := by
  induction ks with
  | nil => rfl
  | cons e t ih =>
    rw [List.map_cons]
    by_cases c : e.1 = k
    · have e1 : List.find? (fun e : Run => decide (e.1 = k)) (e :: t) = some e := by
        rw [List.find?_cons, show (decide (e.1 = k)) = true from decide_eq_true c]
      rw [valV_pos (p := entK e) (by show (Sum.inr e.1 : L2.Key) = _; rw [c]), e1]
      rfl
    · have e1 : List.find? (fun e : Run => decide (e.1 = k)) (e :: t) = List.find? (fun e : Run => decide (e.1 = k)) t := by
        rw [List.find?_cons, show (decide (e.1 = k)) = false from decide_eq_false c]
      rw [valV_neg (p := entK e) (fun z => c (Sum.inr.inj z)), e1]
      exact ih
/-- what a dict of counts says of a kind -/
theorem CT.get {ks : List Run} {its : List Str} (c : CT ks its) (k : Str) : (valV (ks.map entK) (Sum.inr k)).getD (.int 0) = .int ((its.count k : Nat) : Int) := by
  rw [val_ent]
  cases h : ks.find? fun e => decide (e.1 = k) with
  | none =>
    have no : k ∉ its := fun hk => by
      obtain ⟨e, he, ek⟩ := List.mem_map.mp ((c.cov k).mp hk)
      have := List.find?_eq_none.mp h e he
      exact this (decide_eq_true ek)
    rw [List.count_eq_zero_of_not_mem no]
    rfl
  | some e =>
    have e0 := List.find?_some (p := fun e : Run => decide (e.1 = k)) h
    have e1 : e.1 = k := of_decide_eq_true e0
    have e2 := c.val e (List.mem_of_find?_eq_some h)
    rw [e1] at e2
    show V.int e.2 = _
    rw [e2]
theorem key_map {ks : List Run} {k : Str} {n : Int} : (ks.map entK).map (fun kv => if kv.1 = (Sum.inr k : L2.Key) then (kv.1, V.int n) else kv) = (ks.map fun e => if e.1 = k then (e.1, n) else e).map entK := by
  rw [List.map_map, List.map_map]
  refine List.map_congr_left fun e _ => ?_
  show (if (Sum.inr e.1 : L2.Key) = Sum.inr k then _ else _) = entK (if e.1 = k then (e.1, n) else e)
  by_cases c : e.1 = k
  · rw [if_pos (by rw [c]), if_pos c]
  · rw [if_neg (fun z => c (Sum.inr.inj z)), if_neg c]
theorem sum_set {ks : List Run} {k : Str} {n : Int} {e0 : Run} (nd : (ks.map (·.1)).Nodup) (h : e0 ∈ ks) (e : e0.1 = k) : ((ks.map fun e => if e.1 = k then (e.1, n) else e).map (·.2)).sum = (ks.map (·.2)).sum - e0.2 + n := by
  induction ks with
  | nil => cases h
  | cons x t ih =>
    have nd := List.nodup_cons.mp (show (x.1 :: t.map (·.1)).Nodup from nd)
    simp only [List.map_cons, List.sum_cons]
    by_cases c : x.1 = k
    · have ex : x = e0 := by
        rcases List.mem_cons.mp h with z | z
        · exact z.symm
        · exact absurd (List.mem_map.mpr ⟨e0, z, by rw [e, c]⟩) nd.1
      have keep : (t.map fun e => if e.1 = k then (e.1, n) else e) = t := by
        refine (List.map_congr_left fun y hy => ?_).trans (List.map_id _)
        have : ¬ y.1 = k := fun z => nd.1 (List.mem_map.mpr ⟨y, hy, by rw [z, c]⟩)
        rw [if_neg this]
        rfl
      have e9 : (t.map fun e => if e.1 = k then (e.1, n) else e).map (·.2) = t.map (·.2) := by rw [keep]
      rw [if_pos c, ex]
      show n + ((t.map fun e => if e.1 = k then (e.1, n) else e).map (·.2)).sum = e0.2 + (t.map (·.2)).sum - e0.2 + n
      rw [e9]
      omega
    · have h' : e0 ∈ t := by
        rcases List.mem_cons.mp h with z | z
        · rw [z] at e
          exact absurd e c
        · exact z
      have := ih nd.2 h'
      rw [if_neg c, this]
      omega
theorem CT.put {ks : List Run} {its : List Str} (c : CT ks its) (k : Str) (n : Nat) (hn : 1 ≤ n) : ∃ ks', putK (ks.map entK) (Sum.inr k) (.int (((its.count k : Nat) : Int) + (n : Int))) = ks'.map entK ∧ CT ks' (its ++ List.replicate n k) ∧ ks'.length ≤ ks.length + 1 := by
  have cnt : ∀ j : Str, (its ++ List.replicate n k).count j = its.count j + if j = k then n else 0 := by
    intro j
    rw [List.count_append, List.count_replicate]
    congr 1
    by_cases e : j = k
    · rw [if_pos e, if_pos (by rw [e]; exact beq_self_eq_true k)]
    · rw [if_neg e, if_neg (fun z => e (eq_of_beq z).symm)]
  have mem : ∀ j : Str, j ∈ its ++ List.replicate n k ↔ j ∈ its ∨ j = k := by
    intro j
    rw [List.mem_append, List.mem_replicate]
    exact ⟨fun h => h.elim .inl fun z => .inr z.2, fun h => h.elim .inl fun z => .inr ⟨by omega, z⟩⟩
  by_cases hk : k ∈ its
  · have hk' := (c.cov k).mp hk
    obtain ⟨e0, he0, ek⟩ := List.mem_map.mp hk'
    have any : ((ks.map entK).any fun kv => decide (kv.1 = (Sum.inr k : L2.Key))) = true := by
      rw [List.any_eq_true]
      exact ⟨entK e0, List.mem_map.mpr ⟨e0, he0, rfl⟩, decide_eq_true (by show (Sum.inr e0.1 : L2.Key) = _; rw [ek])⟩
    have keys : (ks.map fun e => if e.1 = k then (e.1, ((its.count k : Nat) : Int) + (n : Int)) else e).map (·.1) = ks.map (·.1) := by
      rw [List.map_map]
      refine List.map_congr_left fun e _ => ?_
      show (if e.1 = k then (e.1, ((its.count k : Nat) : Int) + (n : Int)) else e).1 = e.1
      split <;> rfl
    refine ⟨ks.map fun e => if e.1 = k then (e.1, ((its.count k : Nat) : Int) + (n : Int)) else e, ?_, ⟨by rw [keys]; exact c.nd, fun e he => ?_, fun j => ?_, ?_⟩, by rw [List.length_map]; omega⟩
    · unfold putK
      rw [if_pos any, key_map]
    · obtain ⟨x, hx, ex⟩ := List.mem_map.mp he
      rw [← ex, cnt]
      by_cases d : x.1 = k
      · rw [if_pos d]
        show ((its.count k : Nat) : Int) + (n : Int) = ((its.count x.1 + if x.1 = k then n else 0 : Nat) : Int)
        rw [if_pos d, d]
        omega
      · rw [if_neg d, if_neg d]
        exact c.val x hx
    · rw [keys, mem, c.cov j]
      exact ⟨fun h => h.elim id fun z => by rw [z]; exact hk', .inl⟩
    · rw [sum_set c.nd he0 ek, c.sum, c.val e0 he0, ek, List.length_append, List.length_replicate]
      omega
  · have hk' : k ∉ ks.map (·.1) := fun z => hk ((c.cov k).mpr z)
    have any : ¬ ((ks.map entK).any fun kv => decide (kv.1 = (Sum.inr k : L2.Key))) = true := by
      rw [List.any_eq_true]
      rintro ⟨kv, h1, h2⟩
      obtain ⟨e, he, ee⟩ := List.mem_map.mp h1
      have := of_decide_eq_true h2
      rw [← ee] at this
      exact hk' (List.mem_map.mpr ⟨e, he, Sum.inr.inj this⟩)
    have z0 : its.count k = 0 := List.count_eq_zero_of_not_mem hk
    refine ⟨ks ++ [(k, ((its.count k : Nat) : Int) + (n : Int))], ?_, ⟨?_, fun e he => ?_, fun j => ?_, ?_⟩, by rw [List.length_append]; exact Nat.le_refl _⟩
    · unfold putK
      rw [if_neg any, List.map_append]
      rfl
    · rw [List.map_append]
      refine List.nodup_append.mpr ⟨c.nd, List.nodup_cons.mpr ⟨by simp, List.nodup_nil⟩, fun a ha b hb => ?_⟩
      rw [List.mem_singleton.mp hb]
      intro z
      rw [z] at ha
      exact hk' ha
    · rw [cnt]
      rcases List.mem_append.mp he with z | z
      · have ne : e.1 ≠ k := fun w => hk' (List.mem_map.mpr ⟨e, z, w⟩)
        rw [if_neg ne]
        exact c.val e z
      · rw [List.mem_singleton.mp z]
        show ((its.count k : Nat) : Int) + (n : Int) = ((its.count k + if k = k then n else 0 : Nat) : Int)
        rw [if_pos rfl]
        omega
    · rw [mem, List.map_append, List.mem_append, c.cov j]
      show _ ∨ _ ↔ _ ∨ j ∈ [k]
      rw [List.mem_singleton]
    · rw [List.map_append, List.sum_append, c.sum, List.length_append, List.length_replicate, z0]
      show _ + ((((0 : Nat) : Int) + (n : Int)) + 0) = _
      omega
/-! ### sorted counts are unique -/
theorem Same.butB {H H1 H' : Hp} {D : Addr} (n : H D = none) (s : Same H H1) (b : But D H1 H') : Same H H' := fun a o e => b _ _ (ne_of_none e n) (s _ _ e)
def ltR (x y : Run) : Prop := x.1.cps.toList < y.1.cps.toList
theorem uniq_sorted : ∀ {l m : List Run}, l.Pairwise ltR → m.Pairwise ltR → (∀ x, x ∈ l ↔ x ∈ m) → l = m
  | [], [], _, _, _ => rfl
  | [], b :: m, _, _, h => absurd ((h b).mpr (List.mem_cons_self ..)) (by simp)
  | a :: l, [], _, _, h => absurd ((h a).mp (List.mem_cons_self ..)) (by simp)
  | a :: l, b :: m, hl, hm, h => by
    have hl := List.pairwise_cons.mp hl
    have hm := List.pairwise_cons.mp hm
    have e : a = b := by
      rcases List.mem_cons.mp ((h a).mp (List.mem_cons_self ..)) with z | z
      · exact z
      · rcases List.mem_cons.mp ((h b).mpr (List.mem_cons_self ..)) with w | w
        · exact w.symm
        · exact absurd (hl.1 b w) (List.lt_asymm (hm.1 a z))
    subst e
    congr 1
    refine uniq_sorted hl.2 hm.2 fun x => ⟨fun hx => ?_, fun hx => ?_⟩
    · rcases List.mem_cons.mp ((h x).mp (List.mem_cons_of_mem _ hx)) with z | z
      · rw [z] at hx
        exact absurd (hl.1 a hx) (List.lt_irrefl _)
      · exact z
    · rcases List.mem_cons.mp ((h x).mpr (List.mem_cons_of_mem _ hx)) with z | z
      · rw [z] at hx
        exact absurd (hm.1 a hx) (List.lt_irrefl _)
      · exact z
theorem lt_of_not {x y : Str} (n : x ≠ y) (h : ¬ y.cps.toList < x.cps.toList) : x.cps.toList < y.cps.toList := by
  by_cases c : x.cps.toList < y.cps.toList
  · exact c
  · exact absurd (UPS.str_of (List.le_antisymm h c)) n
theorem CT.strict {ks : List Run} {its : List Str} (c : CT ks its) (s : ks.Pairwise fun x y => UPS.lexS y x = false) : ks.Pairwise ltR := by
  have nd : ks.Pairwise fun x y => x.1 ≠ y.1 := List.pairwise_map.mp c.nd
  refine (List.Pairwise.and nd s).imp fun {x y} h => ?_
  exact lt_of_not h.1 ((UPS.lexS_no.mp h.2).2 fun z => h.1 z.symm)
theorem CT.eq {ks ls : List Run} {its : List Str} (c : CT ks its) (d : CT ls its) (s : ks.Pairwise fun x y => UPS.lexS y x = false) (t : ls.Pairwise fun x y => UPS.lexS y x = false) : ks = ls := by
  have sub : ∀ {a b : List Run}, CT a its → CT b its → ∀ x ∈ a, x ∈ b := by
    intro a b ca cb x hx
    have hk := (ca.cov x.1).mpr (List.mem_map.mpr ⟨x, hx, rfl⟩)
    obtain ⟨e, he, ee⟩ := List.mem_map.mp ((cb.cov x.1).mp hk)
    have : e = x := Prod.ext ee (by rw [cb.val e he, ca.val x hx, ee])
    rw [← this]
    exact he
  exact uniq_sorted (c.strict s) (d.strict t) fun x => ⟨sub c d x, sub d c x⟩
section
variable {P : Program} {w : World} {K : PySem.W.Frag} {mg : Str → Option Value} {base : Heap}
/-! counts_of: slots 0:sequence 1:totals 2:kind 3:count -/
abbrev s_counts_of : Stmt := topS 31
theorem sc_counts_of : FnScope ["sequence", "totals", "kind", "count"] ["sequence"] (defScope s_counts_of) := ⟨rfl, rfl, rfl, by decide +kernel, rfl, by decide +kernel, by decide +kernel⟩
def sp_counts_of : Sp := fun vs H Q _ => ∃ (av : V) (rs : List Run), vs = [av] ∧ RunsG H av rs ∧ SeqOk rs ∧ ∀ H' p out, Same H H' → H p = none → Runs H' p out → CT out (itR rs) → out.Pairwise (fun x y => UPS.lexS y x = false) → out.length ≤ rs.length → Q (.ref p) H'
theorem ok_counts_of (D : Df K mg "counts_of" s_counts_of) (T : Tx mg) (G_checked_runs : Has P w K mg base 5 "checked_runs" ["sequence"] sp_checked_runs) : Has P w K mg base 6 "counts_of" ["sequence"] sp_counts_of := by
  refine has_of D sc_counts_of (fun _ _ _ _ _ _ us hl => match us, hl with | [_], _ => rfl) (fun vs H Q E h => ?_) (fun f cdv A outer s₀ H vs Q E hr h => ?_)
  · obtain ⟨a, R, rfl, _⟩ := h
    rfl
  · obtain ⟨av, rs, rfl, hR, ok, q⟩ := h
    have l4 := ok.1
    refine ⟨_, (pss_cons (ps_set (i := 1) sc_counts_of.nd rfl (by first | exact Or.inl rfl | exact Or.inr rfl) pe_dnewK)
    (pss_cons (ps_for PassesOwn.never rfl (pi_list (pe_callH G_checked_runs (hr.mono (by omega)) (by rfl) (pa_cons (pv 0) pa_nil))) (pg_tup rfl (pgs_cons (pg_name (i := 2) sc_counts_of.nd rfl (by first | exact Or.inl rfl | exact Or.inr rfl)) (pgs_cons (pg_name (i := 3) sc_counts_of.nd rfl (by first | exact Or.inl rfl | exact Or.inr rfl)) pgs_nil)))
      (pss_one (ps_dput (hu_of hr) (pv 1) (pv 2) (pe_op op_add (pe_dget2 (hu_of hr) (pv 1) (pv 2) pe_int ⟨by rfl, by rfl, by rfl, by rfl⟩) (pv 3)) rfl)))
    (pss_one (ps_ret (pe_callB cr_sortedR (by rfl) T.n_sorted (by decide +kernel) (pa_cons (LiI.pe_listItems (by rfl) (pv 1) (by rfl) T.n_list (by decide +kernel)) pa_nil)))))), ?_⟩
    refine fun d nd => ⟨_, rfl, av, rs, rfl, hR.same (same_upd nd), ok, fun H1 p s1 np hp => ?_⟩
    obtain ⟨xs, hx, hpr⟩ := hp
    have lx : xs.length = rs.length := Paired.len hpr
    have sd := same_upd (o := .dK []) nd
    have hd1 : H1 d = some (.dK []) := s1 _ _ upd_same
    have pd : p ≠ d := fun z => by rw [z, hd1] at hx; cases hx
    refine ⟨p, rfl, ⟨xs, .of hx⟩, for_list (K := K) (a := p) (xs := xs) (fun i σ H' => ∃ y2 y3 ks, σ = [some av, some (.ref d), y2, y3] ∧ But d H1 H' ∧ H' d = some (.dK (ks.map entK)) ∧ CT ks (itR (rs.take i)) ∧ ks.length ≤ i) ⟨none, none, [], rfl, But.refl, hd1, CT.nil, Nat.le_refl _⟩ (fun i σ H' _ hP => ?_) (fun i x σ H2 ex hP => ?_) (fun σ H2 hP => ?_)⟩
    · obtain ⟨_, _, _, _, bt, _⟩ := hP
      exact .of (bt _ _ pd hx)
    · obtain ⟨y2, y3, ks, rfl, bt, hd, ct, lk⟩ := hP
      obtain ⟨r, er, ⟨t, rfl, ht⟩⟩ := Paired.at hpr ex
      have ht2 := bt _ _ (ne_of ht hd1 (by intro z; cases z)) ht
      have hi : i < xs.length := (List.getElem?_eq_some_iff.mp ex).1
      have c1 := (ok.2.1 r (List.mem_of_getElem? er)).2.1
      refine ⟨t, _, rfl, .of ht2, rfl, _, _, rfl, _, _, rfl, rfl, ?_⟩
      refine ⟨_, rfl, d, rfl, .inl ⟨_, .inl hd⟩, _, rfl, _, DGet.k (k := Sum.inr r.1) hd, ?_⟩
      rw [ct.get]
      obtain ⟨ks', e1, ct', l'⟩ := ct.put r.1 r.2.toNat (by omega)
      rw [show ((r.2.toNat : Nat) : Int) = r.2 by omega] at e1
      refine ⟨_, rfl, _, _, rfl, rfl, _, rfl, _, rfl, d, _, rfl, DPut.k (k := Sum.inr r.1) hd (by rw [List.length_map]; exact small (by omega)), ?_⟩
      refine ⟨_, _, ks', rfl, bt.trans but_upd, ?_, ?_, by omega⟩
      · rw [upd_same]
        exact congrArg (fun z => some (HO.dK z)) e1
      · rw [take_snoc er, itR_snoc]
        exact ct'
    · obtain ⟨y2, y3, ks, rfl, bt, hd, ct, lk⟩ := hP
      rw [lx, List.take_length] at ct
      have sA : Same H H2 := Same.butB nd (sd.trans s1) bt
      refine ⟨_, rfl, d, _, rfl, hd, fun H3 l ts k1 k2 _ _ k5 k6 => ?_⟩
      have s3 : Same H2 H3 := k1
      have rn : Runs H3 l ks := ⟨_, k5, ?_⟩
      · refine ⟨l, ks, rfl, rn, fun H4 l4 out s4 n4 hl pm so => q H4 l4 out (sA.trans (s3.trans s4)) ((sA.trans s3).free n4) hl (ct.perm pm) so ?_⟩
        rw [pm.length_eq]
        omega
      · have g : ∀ {as : List Addr} {es : List Run}, Paired (fun (t : Addr) (q : L2.Key × V) => H3 t = some (.tup [kV q.1, q.2])) as (es.map entK) → Paired (RunV H3) (as.map V.ref) es := by
          intro as es h
          induction es generalizing as with
          | nil => cases h; exact .nil
          | cons e u ih =>
            cases h with
            | cons h1 h2 => exact .cons ⟨_, rfl, h1⟩ (ih h2)
        exact g k6
end
end UP

set_option Elab.async false
set_option linter.all false
set_option maxRecDepth 100000
set_option maxHeartbeats 4000000
namespace UP
open PySem PySem.Spec PyProof.Rows L2
/-! ### the reel: a list of two lists of ints and two ints -/
def Reel (H : Hp) (p : Addr) : Prop := ∃ (g c : Addr) (gs cs : List Int) (n s : Int), H p = some (.lst [.ref g, .ref c, .int n, .int s]) ∧ H g = some (.lst (gs.map V.int)) ∧ H c = some (.lst (cs.map V.int)) ∧ gs.length ≤ 63 ∧ (∀ x ∈ gs, 0 ≤ x) ∧ 0 < cs.length ∧ cs.length ≤ 64 ∧ 0 ≤ n ∧ 0 ≤ s ∧ s < 170141183460469231731687303715884105727
def Off (H : Hp) (p D : Addr) : Prop := ∃ (g c : Addr) (n s : Int), H p = some (.lst [.ref g, .ref c, .int n, .int s]) ∧ D ≠ p ∧ D ≠ g ∧ D ≠ c
theorem not_ints {g c : Addr} {n s : Int} {l : List Int} : (HO.lst [.ref g, .ref c, .int n, .int s]) ≠ .lst (l.map V.int) := by
  intro h
  have h := HO.lst.inj h
  cases l with
  | nil => cases h
  | cons x t => cases h
theorem Reel.off {H : Hp} {p D : Addr} (z : Reel H p) (n : H D = none) : Off H p D := by
  obtain ⟨g, c, gs, cs, i, s, hp, hg, hc, _⟩ := z
  exact ⟨g, c, i, s, hp, fun e => by (rw [e, hp] at n; cases n), fun e => by (rw [e, hg] at n; cases n), fun e => by (rw [e, hc] at n; cases n)⟩
theorem Reel.ne {H : Hp} {p D : Addr} (z : Reel H p) (n : H D = none) : D ≠ p := by
  obtain ⟨_, _, _, _, _, h, _⟩ := z.off n
  exact h
theorem Off.ne {H : Hp} {p D : Addr} (z : Off H p D) : D ≠ p := by
  obtain ⟨_, _, _, _, _, h, _⟩ := z
  exact h
theorem Reel.same {H H' : Hp} {p : Addr} (z : Reel H p) (s : Same H H') : Reel H' p := by
  obtain ⟨g, c, gs, cs, i, t, hp, hg, hc, r⟩ := z
  exact ⟨g, c, gs, cs, i, t, s _ _ hp, s _ _ hg, s _ _ hc, r⟩
theorem Off.same {H H' : Hp} {p D : Addr} (z : Off H p D) (s : Same H H') : Off H' p D := by
  obtain ⟨g, c, i, t, hp, r⟩ := z
  exact ⟨g, c, i, t, s _ _ hp, r⟩
theorem Off.upd {H : Hp} {p D D' : Addr} {o : HO} (z : Off H p D) (n : D' ≠ p) : Off (upd H D' o) p D := by
  obtain ⟨g, c, i, t, hp, r⟩ := z
  exact ⟨g, c, i, t, by rw [upd_ne n.symm]; exact hp, r⟩
theorem Reel.upd {H : Hp} {p D : Addr} {x : HO} (z : Reel H p) (o : Off H p D) : Reel (upd H D x) p := by
  obtain ⟨g, c, gs, cs, i, t, hp, hg, hc, r⟩ := z
  obtain ⟨g', c', i', t', hp', n1, n2, n3⟩ := o
  rw [hp] at hp'
  cases hp'
  exact ⟨g, c, gs, cs, i, t, by rw [upd_ne n1.symm]; exact hp, by rw [upd_ne n2.symm]; exact hg, by rw [upd_ne n3.symm]; exact hc, r⟩
/-- all but the reel stays, and what was not of the reel is not of it -/
structure RB (p : Addr) (H H' : Hp) : Prop where
  but : But p H H'
  off : ∀ D o, H D = some o → Off H p D → Off H' p D
theorem RB.refl {p : Addr} {H : Hp} : RB p H H := ⟨But.refl, fun _ _ _ h => h⟩
theorem RB.trans {p : Addr} {H H1 H2 : Hp} (a : RB p H H1) (b : RB p H1 H2) : RB p H H2 := ⟨a.but.trans b.but, fun D o e h => b.off D o (a.but D o h.ne e) (a.off D o e h)⟩
theorem RB.of {p : Addr} {H H' : Hp} (s : Same H H') : RB p H H' := ⟨sb s, fun _ _ _ h => h.same s⟩
theorem RB.free {p q : Addr} {H H' : Hp} (b : RB p H H') (z : Reel H' p) (h : H' q = none) : H q = none := by
  by_cases e : q = p
  · exact absurd e (z.ne h)
  · cases r : H q with
    | none => rfl
    | some o =>
      rw [b.but q o e r] at h
      cases h
theorem RB.grow {p D : Addr} {H H' : Hp} {x : HO} (b : RB p H H') (n : H D = none) (o : Off H' p D) : RB p H (L2.upd H' D x) := ⟨fun q r e h => by
    rw [upd_ne (ne_of_none h n)]
    exact b.but q r e h, fun E r h k => (b.off E r h k).upd o.ne⟩
theorem RB.run {p : Addr} {H H' : Hp} {v : V} {r : Run} (b : RB p H H') (z : Reel H p) (h : RunV H v r) : RunV H' v r := by
  obtain ⟨t, e, h⟩ := h
  obtain ⟨_, _, _, _, _, _, hp, _⟩ := z
  exact ⟨t, e, b.but _ _ (ne_of h hp (by intro q; cases q)) h⟩
theorem RB.st {p : Addr} {H H' : Hp} {v : V} {st : Option Run} (b : RB p H H') (z : Reel H p) (h : StV H v st) : StV H' v st := by
  cases st with
  | none => exact h
  | some r => exact b.run z h
theorem RB.strs {p a : Addr} {H H' : Hp} {ks : List Str} (b : RB p H H') (z : Reel H p) (h : H a = some (.lst (ks.map V.str))) : H' a = some (.lst (ks.map V.str)) := by
  obtain ⟨_, _, _, _, _, _, hp, _⟩ := z
  refine b.but _ _ (ne_of h hp fun q => ?_) h
  have q := HO.lst.inj q
  cases ks with
  | nil => cases q
  | cons x t => cases q
theorem RB.tup {p a : Addr} {H H' : Hp} {xs : List V} (b : RB p H H') (z : Reel H p) (h : H a = some (.tup xs)) : H' a = some (.tup xs) := by
  obtain ⟨_, _, _, _, _, _, hp, _⟩ := z
  exact b.but _ _ (ne_of h hp (by intro q; cases q)) h
/-! ### lists of ints -/
theorem dp_intl {K : PySem.W.Frag} {H : Hp} : ∀ (l : List Int), DpAll K H (l.map V.int) (l.map PyData.int)
  | [] => .nil
  | x :: t => .cons (.int x) (dp_intl t)
theorem can_intl : ∀ (l : List Int), PyData.canLayAll0 (l.map PyData.int) = true
  | [] => by simp [PyData.canLayAll0]
  | x :: t => by
    rw [List.map_cons, PyData.canLayAll0, can_intl t]
    simp [PyData.canLay0]
theorem depth_intl : ∀ (l : List Int), PyData.depthAll (l.map PyData.int) ≤ 1
  | [] => by simp [PyData.depthAll]
  | x :: t => by
    rw [List.map_cons, PyData.depthAll]
    exact Nat.max_le.mpr ⟨by simp [PyData.depth], depth_intl t⟩
theorem shaped_intl (l : List Int) : SeqAt.shaped (.list (l.map PyData.int)) = true := by
  unfold SeqAt.shaped
  rw [PyData.canLay0, can_intl l, PyData.depth]
  have := depth_intl l
  exact decide_eq_true (by omega)
theorem eqv_nilI (l : List Int) : PyData.eqv (.list (l.map PyData.int)) (.list []) = l.isEmpty := by
  cases l with
  | nil => simp [PyData.eqv, PyData.eqvAll]
  | cons r t => simp [PyData.eqv, PyData.eqvAll]
theorem cut_dropR (xs : List V) (r : Int) (h0 : 0 ≤ r) (h1 : r ≤ xs.length) : cutV xs (some r) none = xs.drop r.toNat := by
  have e : HT.sIx xs.length 0 (some r) = r.toNat := by
    have := HT.sIx_nat xs.length 0 r.toNat
    rw [show ((r.toNat : Nat) : Int) = r by omega] at this
    omega
  unfold cutV
  rw [e, HT.sIx_none, List.take_of_length_le (by rw [List.length_drop]; exact Nat.le_refl _)]
theorem atI_ofR {α : Type} {l : List α} {i : Int} {x : α} (h0 : 0 ≤ i) (h : l[i.toNat]? = some x) : atI l i = some x := by
  have e : i = (i.toNat : Int) := by omega
  rw [e]
  exact atI_nat h
theorem at40 {α : Type} {x y z u : α} : atI [x, y, z, u] 0 = some x := rfl
theorem at41 {α : Type} {x y z u : α} : atI [x, y, z, u] 1 = some y := rfl
theorem at42 {α : Type} {x y z u : α} : atI [x, y, z, u] 2 = some z := rfl
theorem at43 {α : Type} {x y z u : α} : atI [x, y, z, u] 3 = some u := rfl
section
variable {P : Program} {w : World} {K : PySem.W.Frag} {mg : Str → Option Value} {base : Heap}
end
end UP

set_option Elab.async false
set_option linter.all false
set_option maxRecDepth 100000
set_option maxHeartbeats 4000000
namespace UP
open PySem PySem.Spec PyProof.Rows L2
theorem SqL.sameR {K : PySem.W.Frag} {H H' : Hp} {a : Addr} {xs : List V} (h : SqL K H a xs) (s : Same H H') : SqL K H' a xs := h.elim (fun z => .inl (z.elim (fun y => .inl (s _ _ y)) (fun ⟨o, y⟩ => .inr ⟨o, s _ _ y⟩))) (fun z => .inr z)
theorem erase_permR {α : Type} : ∀ (l : List α) (i : Nat) (h : i < l.length), (l[i] :: l.eraseIdx i).Perm l
  | [], i, h => absurd h (Nat.not_lt_zero _)
  | x :: t, 0, _ => List.Perm.refl _
  | x :: t, i + 1, h => by
    have h' : i < t.length := Nat.lt_of_succ_lt_succ h
    show (t[i] :: x :: t.eraseIdx i).Perm (x :: t)
    exact (List.Perm.swap x _ _).trans ((erase_permR t i h').cons x)
theorem cut63 (ns : List Int) : ∃ ms : List Int, cutV (ns.map V.int) none (some 63) = ms.map V.int ∧ ms.length ≤ 63 := by
  refine ⟨_, by unfold cutV; rw [← List.map_drop, ← List.map_take], ?_⟩
  rw [List.length_take, List.length_drop]
  have : HT.sIx (ns.map V.int).length (ns.map V.int).length (some 63) ≤ 63 := by
    have := HT.sIx_nat (ns.map V.int).length (ns.map V.int).length 63
    have e : HT.sIx (ns.map V.int).length (ns.map V.int).length (some 63) = HT.sIx (ns.map V.int).length (ns.map V.int).length (some ((63 : Nat) : Int)) := rfl
    rw [e, this]
    exact Nat.min_le_left ..
  omega
theorem int_at {ms : List Int} {i : Nat} {x : V} (h : (ms.map V.int)[i]? = some x) : ∃ n, x = .int n := by
  rw [List.getElem?_map] at h
  cases e : ms[i]? with
  | none =>
    rw [e] at h
    cases h
  | some n =>
    rw [e] at h
    exact ⟨n, (Option.some.inj h).symm⟩
section
variable {P : Program} {w : World} {K : PySem.W.Frag} {mg : Str → Option Value} {base : Heap}
end
end UP

set_option Elab.async false
set_option linter.all false
set_option maxRecDepth 100000
set_option maxHeartbeats 4000000
namespace UP
open PySem PySem.Spec PyProof.Rows L2
def sp_noneR : Sp := fun _ _ _ _ => False
theorem simR_run {H : Hp} {p : Addr} {v : V} {r : Run} {n : Nat} (z : Reel H p) (h : RunV H v r) : Sim (· ≠ p) H (n + 1) v (dP r) := by
  obtain ⟨t, rfl, h⟩ := h
  obtain ⟨_, _, _, _, _, _, hs, _⟩ := z
  exact .inr ⟨t, _, _, rfl, ne_of h hs (by intro q; cases q), .inr h, rfl, sim_pair r, Nat.le_of_ble_eq_true rfl⟩
theorem simR_st {H : Hp} {p : Addr} {v : V} {st : Option Run} (z : Reel H p) (h : StV H v st) : Sim (· ≠ p) H 2 v (dSt st) := by
  cases st with
  | none =>
    cases h
    exact .inl (.inl ⟨rfl, rfl⟩)
  | some r => exact simR_run z h
section
variable {P : Program} {w : World} {K : PySem.W.Frag} {mg : Str → Option Value} {base : Heap}
end
end UP

set_option Elab.async false
set_option linter.all false
set_option maxRecDepth 100000
set_option maxHeartbeats 4000000
namespace UP
open PySem PySem.Spec PyProof.Rows L2
/-! ### distances -/
def kdV : Option Run → V
  | none => .non
  | some r => .str r.1
def distR (a b : Option Run) : Int := if kdV a = kdV b then (if numR a - numR b < 0 then -(numR a - numR b) else numR a - numR b) else numR a + numR b
theorem dist_ss (r s : Run) : distR (some r) (some s) = if r.1 = s.1 then (if r.2 - s.2 < 0 then -(r.2 - s.2) else r.2 - s.2) else r.2 + s.2 := by
  unfold distR
  by_cases e : r.1 = s.1
  · rw [if_pos e, if_pos (by show V.str r.1 = V.str s.1; rw [e])]
    rfl
  · rw [if_neg e, if_neg (show ¬ kdV (some r) = kdV (some s) from fun z => e (V.str.inj z))]
    rfl
theorem dist_nn : distR none none = 0 := rfl
theorem dist_ns (r : Run) : distR none (some r) = r.2 := by
  unfold distR
  rw [if_neg (by intro z; cases z)]
  show 0 + r.2 = r.2
  omega
theorem dist_sn (r : Run) : distR (some r) none = r.2 := by
  unfold distR
  rw [if_neg (by intro z; cases z)]
  show r.2 + 0 = r.2
  omega
theorem dist_comm (a b : Option Run) : distR a b = distR b a := by
  cases a with
  | none =>
    cases b with
    | none => rfl
    | some s => rw [dist_ns, dist_sn]
  | some r =>
    cases b with
    | none => rw [dist_ns, dist_sn]
    | some s =>
      rw [dist_ss, dist_ss]
      by_cases e : r.1 = s.1
      · rw [if_pos e, if_pos e.symm]
        split <;> split <;> omega
      · rw [if_neg e, if_neg fun z => e z.symm]
        omega
theorem dist_zero {a b : Option Run} (pa : PosO a) (pb : PosO b) : distR a b = 0 ↔ a = b := by
  cases a with
  | none =>
    cases b with
    | none => exact ⟨fun _ => rfl, fun _ => rfl⟩
    | some s =>
      have := pb s rfl
      rw [dist_ns]
      exact ⟨fun z => by omega, fun z => by cases z⟩
  | some r =>
    have h1 := pa r rfl
    cases b with
    | none =>
      rw [dist_sn]
      exact ⟨fun z => by omega, fun z => by cases z⟩
    | some s =>
      have h2 := pb s rfl
      rw [dist_ss]
      constructor
      · intro z
        by_cases e : r.1 = s.1
        · rw [if_pos e] at z
          have : r.2 = s.2 := by
            split at z <;> omega
          rw [show r = s from Prod.ext e this]
        · rw [if_neg e] at z
          omega
      · intro z
        cases z
        rw [if_pos rfl]
        split <;> omega
theorem dist_tri {a b c : Option Run} (pa : PosO a) (pb : PosO b) (pc : PosO c) : ¬ distR a c + distR c b < distR a b := by
  cases a with
  | none =>
    cases b with
    | none =>
      cases c with
      | none => rw [dist_nn]; omega
      | some t =>
        have := pc t rfl
        rw [dist_nn, dist_ns, dist_sn]
        omega
    | some s =>
      have h2 := pb s rfl
      cases c with
      | none => rw [dist_nn, dist_ns]; omega
      | some t =>
        have := pc t rfl
        rw [dist_ns, dist_ss, dist_ns]
        split
        · split <;> omega
        · omega
  | some r =>
    have h1 := pa r rfl
    cases b with
    | none =>
      cases c with
      | none => rw [dist_nn, dist_sn]; omega
      | some t =>
        have := pc t rfl
        rw [dist_sn, dist_sn, dist_ss]
        split
        · split <;> omega
        · omega
    | some s =>
      have h2 := pb s rfl
      cases c with
      | none =>
        rw [dist_sn, dist_ns, dist_ss]
        split
        · split <;> omega
        · omega
      | some t =>
        have h3 := pc t rfl
        rw [dist_ss, dist_ss, dist_ss]
        by_cases e1 : r.1 = t.1
        · by_cases e2 : t.1 = s.1
          · rw [if_pos e1, if_pos e2, if_pos (e1.trans e2)]
            split <;> split <;> split <;> omega
          · rw [if_pos e1, if_neg e2, if_neg (fun z => e2 (e1.symm.trans z))]
            split <;> omega
        · by_cases e2 : t.1 = s.1
          · rw [if_neg e1, if_pos e2, if_neg (show ¬ r.1 = s.1 from fun z => e1 (z.trans e2.symm))]
            split <;> omega
          · rw [if_neg e1, if_neg e2]
            split
            · split <;> omega
            · omega
/-- one arrival: the distance stays or falls by 2 -/
theorem dist_step {a b : Option Run} {k : Str} (pa : PosO a) (pb : PosO b) : distR (stepR a k 1) (stepR b k 1) = distR a b ∨ distR (stepR a k 1) (stepR b k 1) = distR a b - 2 := by
  have sn : stepR none k 1 = some (k, 1) := rfl
  have sp : ∀ r : Run, 1 ≤ r.2 → (r.1 = k ∧ stepR (some r) k 1 = some (k, r.2 + 1)) ∨ (r.1 ≠ k ∧ 2 ≤ r.2 ∧ stepR (some r) k 1 = some (r.1, r.2 - 1)) ∨ (r.1 ≠ k ∧ r.2 = 1 ∧ stepR (some r) k 1 = none) := by
    intro r h
    by_cases e : r.1 = k
    · exact .inl ⟨e, if_pos e⟩
    · have es : stepR (some r) k 1 = if 0 < r.2 - 1 then some (r.1, r.2 - 1) else if r.2 - 1 = 0 then none else some (k, -(r.2 - 1)) := if_neg e
      by_cases g : 2 ≤ r.2
      · rw [if_pos (by omega)] at es
        exact .inr (.inl ⟨e, g, es⟩)
      · rw [if_neg (by omega), if_pos (by omega)] at es
        exact .inr (.inr ⟨e, by omega, es⟩)
  cases a with
  | none =>
    cases b with
    | none =>
      rw [sn, dist_ss, if_pos rfl, dist_nn]
      left
      split <;> omega
    | some s =>
      have h2 := pb s rfl
      rcases sp s h2 with ⟨e, es⟩ | ⟨e, g, es⟩ | ⟨e, g, es⟩
      · rw [sn, es, dist_ss, dist_ns, if_pos rfl]
        left
        show (if 1 - (s.2 + 1) < 0 then -(1 - (s.2 + 1)) else 1 - (s.2 + 1)) = s.2
        split <;> omega
      · rw [sn, es, dist_ss, dist_ns, if_neg fun z => e z.symm]
        left
        show 1 + (s.2 - 1) = s.2
        omega
      · rw [sn, es, dist_sn, dist_ns]
        left
        show 1 = s.2
        omega
  | some r =>
    have h1 := pa r rfl
    cases b with
    | none =>
      rcases sp r h1 with ⟨e, es⟩ | ⟨e, g, es⟩ | ⟨e, g, es⟩
      · rw [sn, es, dist_ss, dist_sn, if_pos rfl]
        left
        show (if r.2 + 1 - 1 < 0 then -(r.2 + 1 - 1) else r.2 + 1 - 1) = r.2
        split <;> omega
      · rw [sn, es, dist_ss, dist_sn, if_neg e]
        left
        show r.2 - 1 + 1 = r.2
        omega
      · rw [sn, es, dist_ns, dist_sn]
        left
        show 1 = r.2
        omega
    | some s =>
      have h2 := pb s rfl
      rw [dist_ss r s]
      rcases sp r h1 with ⟨e, es⟩ | ⟨e, g, es⟩ | ⟨e, g, es⟩
      · rcases sp s h2 with ⟨f, fs⟩ | ⟨f, j, fs⟩ | ⟨f, j, fs⟩
        · rw [es, fs, dist_ss, if_pos rfl, if_pos (e.trans f.symm)]
          left
          show (if r.2 + 1 - (s.2 + 1) < 0 then -(r.2 + 1 - (s.2 + 1)) else r.2 + 1 - (s.2 + 1)) = _
          split <;> split <;> omega
        · rw [es, fs, dist_ss, if_neg (fun z => f z.symm), if_neg (fun z => f (z.symm.trans e))]
          left
          show r.2 + 1 + (s.2 - 1) = _
          omega
        · rw [es, fs, dist_sn, if_neg (fun z => f (z.symm.trans e))]
          left
          show r.2 + 1 = _
          omega
      · rcases sp s h2 with ⟨f, fs⟩ | ⟨f, j, fs⟩ | ⟨f, j, fs⟩
        · rw [es, fs, dist_ss, if_neg e, if_neg (fun z => e (z.trans f))]
          left
          show r.2 - 1 + (s.2 + 1) = _
          omega
        · rw [es, fs, dist_ss]
          show (if r.1 = s.1 then (if r.2 - 1 - (s.2 - 1) < 0 then -(r.2 - 1 - (s.2 - 1)) else r.2 - 1 - (s.2 - 1)) else r.2 - 1 + (s.2 - 1)) = _ ∨ (if r.1 = s.1 then (if r.2 - 1 - (s.2 - 1) < 0 then -(r.2 - 1 - (s.2 - 1)) else r.2 - 1 - (s.2 - 1)) else r.2 - 1 + (s.2 - 1)) = _
          by_cases u : r.1 = s.1
          · rw [if_pos u, if_pos u]
            left
            split <;> split <;> omega
          · rw [if_neg u, if_neg u]
            right
            omega
        · rw [es, fs, dist_sn]
          show r.2 - 1 = _ ∨ r.2 - 1 = _
          by_cases u : r.1 = s.1
          · rw [if_pos u]
            left
            split <;> omega
          · rw [if_neg u]
            right
            omega
      · rcases sp s h2 with ⟨f, fs⟩ | ⟨f, j, fs⟩ | ⟨f, j, fs⟩
        · rw [es, fs, dist_ns, if_neg (fun z => e (z.trans f))]
          left
          show s.2 + 1 = _
          omega
        · rw [es, fs, dist_ns]
          show s.2 - 1 = _ ∨ s.2 - 1 = _
          by_cases u : r.1 = s.1
          · rw [if_pos u]
            left
            split <;> omega
          · rw [if_neg u]
            right
            omega
        · rw [es, fs, dist_nn]
          by_cases u : r.1 = s.1
          · rw [if_pos u]
            left
            split <;> omega
          · rw [if_neg u]
            right
            omega
section
variable {P : Program} {w : World} {K : PySem.W.Frag} {mg : Str → Option Value} {base : Heap}
end
end UP

set_option Elab.async false
set_option linter.all false
set_option maxRecDepth 100000
set_option maxHeartbeats 4000000
namespace UP
open PySem PySem.Spec PyProof.Rows L2
theorem RB.rung {p : Addr} {H H' : Hp} {v : V} {r : Run} (b : RB p H H') (z : Reel H p) (h : RunG H v r) : RunG H' v r := by
  obtain ⟨t, e, h⟩ := h
  obtain ⟨_, _, _, _, _, _, hp, _⟩ := z
  refine ⟨t, e, h.elim (fun y => .inl (b.but _ _ (ne_of y hp (by intro q; cases q)) y)) (fun y => .inr (b.but _ _ (ne_of y hp (by intro q; cases q)) y))⟩
theorem RB.stg {p : Addr} {H H' : Hp} {v : V} {st : Option Run} (b : RB p H H') (z : Reel H p) (h : StG H v st) : StG H' v st := by
  cases st with
  | none => exact h
  | some r => exact b.rung z h
theorem stOk_step {a : Option Run} {k : Str} (h : StOk a) (kk : KindOk k) : StOk (stepR a k 1) := by
  intro r e
  have p := stepR_pos (k := k) (c := 1) (fun r e => (h r e).2) (by decide) r e
  refine ⟨?_, p⟩
  cases a with
  | none =>
    cases e
    exact kk
  | some s =>
    have hs := h s rfl
    by_cases e1 : s.1 = k
    · rw [show stepR (some s) k 1 = some (k, s.2 + 1) from if_pos e1] at e
      cases e
      exact kk
    · rw [show stepR (some s) k 1 = if 0 < s.2 - 1 then some (s.1, s.2 - 1) else if s.2 - 1 = 0 then none else some (k, -(s.2 - 1)) from if_neg e1] at e
      split at e
      · cases e
        exact hs.1
      · split at e
        · cases e
        · cases e
          exact kk
def dOt : Option Run → PyData
  | none => .none
  | some r => dRun r
theorem dp_o {K : PySem.W.Frag} {H : Hp} {v : V} {st : Option Run} (h : StV H v st) : Dp K H v (dOt st) := by
  cases st with
  | none =>
    cases h
    exact .non
  | some r => exact dp_run h
theorem shaped_o {st : Option Run} (h : StOk st) : SeqAt.shaped (dOt st) = true := by
  cases st with
  | none => decide
  | some r => exact shaped_run (h r rfl).1
theorem eqv_o (a b : Option Run) : PyData.eqv (dOt a) (dOt b) = decide (a = b) := by
  cases a with
  | none =>
    cases b with
    | none => simp [dOt, PyData.eqv]
    | some s => simp [dOt, dRun, PyData.eqv]
  | some r =>
    cases b with
    | none => simp [dOt, dRun, PyData.eqv]
    | some s =>
      obtain ⟨r1, r2⟩ := r
      obtain ⟨s1, s2⟩ := s
      simp [dOt, dRun, PyData.eqv, PyData.eqvAll]
      rw [Bool.eq_iff_iff]
      simp
theorem dps_stN {K : PySem.W.Frag} {H : Hp} {v : V} {st : Option Run} (h : StG H v st) (k : ∀ r, st = some r → KindOk r.1 ∧ r.2.natAbs < 10 ^ 60) : ∃ d, DpS K H v d ∧ Nice 404 1 d := by
  cases st with
  | none =>
    cases h
    exact ⟨.none, fun _ _ => .non, nice_none.mono (by decide) (by decide)⟩
  | some r => exact dps_run (K := K) h (k r rfl).1 (k r rfl).2
theorem nice_il {w : Nat} {l : List Int} (h : ∀ x ∈ l, x.natAbs < 10 ^ 60) (hw : 202 * l.length ≤ w) : Nice w 1 (.list (l.map PyData.int)) := by
  have := nice_list (w := 201) (n := 0) (ds := l.map PyData.int) fun d hd => by
    obtain ⟨x, hx, rfl⟩ := List.mem_map.mp hd
    exact nice_int (h x hx)
  exact this.mono (by rw [List.length_map]; omega) (Nat.le_refl _)
theorem dist_bd {a b : Option Run} (pa : PosO a) (pb : PosO b) {m : Int} (ha : ∀ r, a = some r → r.2 ≤ m) (hb : ∀ r, b = some r → r.2 ≤ m) (m0 : 0 ≤ m) : 0 ≤ distR a b ∧ distR a b ≤ 2 * m := by
  cases a with
  | none =>
    cases b with
    | none => rw [dist_nn]; omega
    | some s =>
      have := pb s rfl
      have := hb s rfl
      rw [dist_ns]; omega
  | some r =>
    have h1 := pa r rfl
    have h2 := ha r rfl
    cases b with
    | none => rw [dist_sn]; omega
    | some s =>
      have := pb s rfl
      have := hb s rfl
      rw [dist_ss]
      split
      · split <;> omega
      · omega
theorem p39 : (10 : Int) ^ ((39 : Int).toNat) = 1000000000000000000000000000000000000000 := by decide +kernel
end UP

set_option Elab.async false
set_option linter.all false
set_option maxRecDepth 100000
set_option maxHeartbeats 4000000
namespace UP
open PySem PySem.Spec PyProof.Rows L2
/-! ### meetings -/
def MW (a b : Option Run) (k : Str) (c : Int) : Prop := kdV a ≠ .str k ∧ kdV b ≠ .str k ∧ numR a = numR b ∧ numR b ≤ c
instance (a b : Option Run) (k : Str) (c : Int) : Decidable (MW a b k c) := by
  unfold MW
  infer_instance
theorem MW.comm {a b : Option Run} {k : Str} {c : Int} : MW a b k c ↔ MW b a k c := by
  unfold MW
  exact ⟨fun h => ⟨h.2.1, h.1, h.2.2.1.symm, by omega⟩, fun h => ⟨h.2.1, h.1, h.2.2.1.symm, by omega⟩⟩
theorem mw_nn {k : Str} {c : Int} : MW none none k c ↔ 0 ≤ c := ⟨fun h => h.2.2.2, fun h => ⟨by (intro z; cases z), by (intro z; cases z), rfl, h⟩⟩
theorem mw_ns {s : Run} {k : Str} {c : Int} : MW none (some s) k c ↔ s.1 ≠ k ∧ 0 = s.2 ∧ s.2 ≤ c := ⟨fun h => ⟨fun z => h.2.1 (by show V.str s.1 = V.str k; rw [z]), h.2.2.1, h.2.2.2⟩, fun h => ⟨by (intro z; cases z), fun z => h.1 (V.str.inj z), h.2.1, h.2.2⟩⟩
theorem mw_sn {s : Run} {k : Str} {c : Int} : MW (some s) none k c ↔ s.1 ≠ k ∧ s.2 = 0 ∧ 0 ≤ c := ⟨fun h => ⟨fun z => h.1 (by show V.str s.1 = V.str k; rw [z]), h.2.2.1, h.2.2.2⟩, fun h => ⟨fun z => h.1 (V.str.inj z), by (intro z; cases z), h.2.1, h.2.2⟩⟩
theorem mw_ss {r s : Run} {k : Str} {c : Int} : MW (some r) (some s) k c ↔ r.1 ≠ k ∧ s.1 ≠ k ∧ r.2 = s.2 ∧ s.2 ≤ c := ⟨fun h => ⟨fun z => h.1 (by show V.str r.1 = V.str k; rw [z]), fun z => h.2.1 (by show V.str s.1 = V.str k; rw [z]), h.2.2.1, h.2.2.2⟩, fun h => ⟨fun z => h.1 (V.str.inj z), fun z => h.2.1 (V.str.inj z), h.2.2⟩⟩
theorem step_cases {r : Run} {k : Str} {c : Int} : (r.1 = k ∧ stepR (some r) k c = some (k, r.2 + c)) ∨ (r.1 ≠ k ∧ c < r.2 ∧ stepR (some r) k c = some (r.1, r.2 - c)) ∨ (r.1 ≠ k ∧ r.2 = c ∧ stepR (some r) k c = none) ∨ (r.1 ≠ k ∧ r.2 < c ∧ stepR (some r) k c = some (k, c - r.2)) := by
  by_cases e : r.1 = k
  · exact .inl ⟨e, if_pos e⟩
  · have es : stepR (some r) k c = if 0 < r.2 - c then some (r.1, r.2 - c) else if r.2 - c = 0 then none else some (k, -(r.2 - c)) := if_neg e
    by_cases g : c < r.2
    · rw [if_pos (by omega)] at es
      exact .inr (.inl ⟨e, g, es⟩)
    · by_cases h : r.2 = c
      · rw [if_neg (by omega), if_pos (by omega)] at es
        exact .inr (.inr (.inl ⟨e, h, es⟩))
      · rw [if_neg (by omega), if_neg (by omega), show -(r.2 - c) = c - r.2 by omega] at es
        exact .inr (.inr (.inr ⟨e, by omega, es⟩))
theorem some_pair {a b : Str} {m n : Int} : (some (a, m) : Option Run) = some (b, n) ↔ a = b ∧ m = n := ⟨fun h => by cases h; exact ⟨rfl, rfl⟩, fun h => by rw [h.1, h.2]⟩
/-- within a run two different states become equal only together with the last of both -/
theorem meet_iff {a b : Option Run} {k : Str} {c : Int} (pa : PosO a) (pb : PosO b) (ne : a ≠ b) (c1 : 1 ≤ c) : stepR a k c = stepR b k c ↔ MW a b k c := by
  cases a with
  | none =>
    cases b with
    | none => exact absurd rfl ne
    | some s =>
      have h2 := pb s rfl
      rw [mw_ns, show stepR none k c = some (k, c) from rfl]
      rcases step_cases (r := s) (k := k) (c := c) with ⟨e, es⟩ | ⟨e, g, es⟩ | ⟨e, g, es⟩ | ⟨e, g, es⟩
      · rw [es, some_pair]
        exact ⟨fun z => (by omega), fun z => by omega⟩
      · rw [es, some_pair]
        exact ⟨fun z => absurd z.1.symm e, fun z => by omega⟩
      · rw [es]
        exact ⟨fun z => (by cases z), fun z => by omega⟩
      · rw [es, some_pair]
        exact ⟨fun z => (by omega), fun z => by omega⟩
  | some r =>
    have h1 := pa r rfl
    cases b with
    | none =>
      rw [mw_sn, show stepR none k c = some (k, c) from rfl]
      rcases step_cases (r := r) (k := k) (c := c) with ⟨e, es⟩ | ⟨e, g, es⟩ | ⟨e, g, es⟩ | ⟨e, g, es⟩
      · rw [es, some_pair]
        exact ⟨fun z => (by omega), fun z => by omega⟩
      · rw [es, some_pair]
        exact ⟨fun z => absurd z.1 e, fun z => by omega⟩
      · rw [es]
        exact ⟨fun z => (by cases z), fun z => by omega⟩
      · rw [es, some_pair]
        exact ⟨fun z => (by omega), fun z => by omega⟩
    | some s =>
      have h2 := pb s rfl
      have ne2 : ¬ (r.1 = s.1 ∧ r.2 = s.2) := fun z => ne (by rw [show r = s from Prod.ext z.1 z.2])
      rw [mw_ss]
      rcases step_cases (r := r) (k := k) (c := c) with ⟨e, es⟩ | ⟨e, g, es⟩ | ⟨e, g, es⟩ | ⟨e, g, es⟩
      · rcases step_cases (r := s) (k := k) (c := c) with ⟨f, fs⟩ | ⟨f, j, fs⟩ | ⟨f, j, fs⟩ | ⟨f, j, fs⟩
        · rw [es, fs, some_pair]
          exact ⟨fun z => absurd ⟨e.trans f.symm, by omega⟩ ne2, fun z => absurd e z.1⟩
        · rw [es, fs, some_pair]
          exact ⟨fun z => absurd z.1.symm f, fun z => absurd e z.1⟩
        · rw [es, fs]
          exact ⟨fun z => (by cases z), fun z => absurd e z.1⟩
        · rw [es, fs, some_pair]
          exact ⟨fun z => (by omega), fun z => absurd e z.1⟩
      · rcases step_cases (r := s) (k := k) (c := c) with ⟨f, fs⟩ | ⟨f, j, fs⟩ | ⟨f, j, fs⟩ | ⟨f, j, fs⟩
        · rw [es, fs, some_pair]
          exact ⟨fun z => absurd z.1 e, fun z => absurd f z.2.1⟩
        · rw [es, fs, some_pair]
          exact ⟨fun z => absurd ⟨z.1, by omega⟩ ne2, fun z => by omega⟩
        · rw [es, fs]
          exact ⟨fun z => (by cases z), fun z => by omega⟩
        · rw [es, fs, some_pair]
          exact ⟨fun z => absurd z.1 e, fun z => by omega⟩
      · rcases step_cases (r := s) (k := k) (c := c) with ⟨f, fs⟩ | ⟨f, j, fs⟩ | ⟨f, j, fs⟩ | ⟨f, j, fs⟩
        · rw [es, fs]
          exact ⟨fun z => (by cases z), fun z => absurd f z.2.1⟩
        · rw [es, fs]
          exact ⟨fun z => (by cases z), fun z => by omega⟩
        · rw [es, fs]
          exact ⟨fun _ => ⟨e, f, by omega, by omega⟩, fun _ => rfl⟩
        · rw [es, fs]
          exact ⟨fun z => (by cases z), fun z => by omega⟩
      · rcases step_cases (r := s) (k := k) (c := c) with ⟨f, fs⟩ | ⟨f, j, fs⟩ | ⟨f, j, fs⟩ | ⟨f, j, fs⟩
        · rw [es, fs, some_pair]
          exact ⟨fun z => (by omega), fun z => absurd f z.2.1⟩
        · rw [es, fs, some_pair]
          exact ⟨fun z => absurd z.1.symm f, fun z => by omega⟩
        · rw [es, fs]
          exact ⟨fun z => (by cases z), fun z => by omega⟩
        · rw [es, fs, some_pair]
          exact ⟨fun z => ⟨e, f, by omega, by omega⟩, fun z => ⟨rfl, by omega⟩⟩
/-- the moment, run by run; the states are different at the beginning -/
def mgR : List Run → Option Run → Option Run → Int → Option Int
  | [], _, _, _ => none
  | r :: t, a, b, s => if MW a b r.1 r.2 then some (s + numR a) else mgR t (stepR a r.1 r.2) (stepR b r.1 r.2) (s + r.2)
def mmR (rs : List Run) (a b : Option Run) : Option Int := if a = b then some 0 else mgR rs a b 0
theorem mg_comm : ∀ (rs : List Run) (a b : Option Run) (s : Int), mgR rs a b s = mgR rs b a s
  | [], _, _, _ => rfl
  | r :: t, a, b, s => by
    show (if MW a b r.1 r.2 then some (s + numR a) else mgR t (stepR a r.1 r.2) (stepR b r.1 r.2) (s + r.2)) = (if MW b a r.1 r.2 then some (s + numR b) else mgR t (stepR b r.1 r.2) (stepR a r.1 r.2) (s + r.2))
    by_cases h : MW a b r.1 r.2
    · rw [if_pos h, if_pos (MW.comm.mp h), h.2.2.1]
    · rw [if_neg h, if_neg fun z => h (MW.comm.mp z), mg_comm t]
theorem mm_comm (rs : List Run) (a b : Option Run) : mmR rs a b = mmR rs b a := by
  unfold mmR
  by_cases h : a = b
  · rw [if_pos h, if_pos h.symm]
  · rw [if_neg h, if_neg fun z => h z.symm, mg_comm]
theorem lenR_nn {rs : List Run} (k : ∀ r ∈ rs, 1 ≤ r.2) : 0 ≤ lenR rs := by
  rw [← len_it rs k]
  exact Int.natCast_nonneg _
theorem num_nn {a : Option Run} (p : PosO a) : 0 ≤ numR a := by
  cases a with
  | none => exact Int.le_refl _
  | some r =>
    have := p r rfl
    show 0 ≤ r.2
    omega
theorem mg_bd : ∀ (rs : List Run) (a b : Option Run) (s m : Int), (∀ r ∈ rs, 1 ≤ r.2) → PosO a → PosO b → mgR rs a b s = some m → s ≤ m ∧ m ≤ s + lenR rs
  | [], _, _, _, _, _, _, _, h => by cases h
  | r :: t, a, b, s, m, k, pa, pb, h => by
    have c1 := k r (List.mem_cons_self ..)
    have kt : ∀ x ∈ t, 1 ≤ x.2 := fun x hx => k x (List.mem_cons_of_mem _ hx)
    have lt : 0 ≤ lenR t := lenR_nn kt
    have h : (if MW a b r.1 r.2 then some (s + numR a) else mgR t (stepR a r.1 r.2) (stepR b r.1 r.2) (s + r.2)) = some m := h
    rw [lenR_cons]
    by_cases g : MW a b r.1 r.2
    · rw [if_pos g] at h
      have h := Option.some.inj h
      have := num_nn pa
      have := g.2.2
      omega
    · rw [if_neg g] at h
      have := mg_bd t _ _ _ m kt (stepR_pos pa c1) (stepR_pos pb c1) h
      omega
theorem mg_end : ∀ (rs : List Run) (a b : Option Run) (s m : Int), (∀ r ∈ rs, 1 ≤ r.2) → PosO a → PosO b → a ≠ b → mgR rs a b s = some m → stR rs a = stR rs b
  | [], _, _, _, _, _, _, _, _, h => by cases h
  | r :: t, a, b, s, m, k, pa, pb, ne, h => by
    have c1 := k r (List.mem_cons_self ..)
    have kt : ∀ x ∈ t, 1 ≤ x.2 := fun x hx => k x (List.mem_cons_of_mem _ hx)
    have h : (if MW a b r.1 r.2 then some (s + numR a) else mgR t (stepR a r.1 r.2) (stepR b r.1 r.2) (s + r.2)) = some m := h
    rw [stR_cons, stR_cons]
    by_cases g : MW a b r.1 r.2
    · rw [(meet_iff pa pb ne c1).mpr g]
    · rw [if_neg g] at h
      exact mg_end t _ _ _ m kt (stepR_pos pa c1) (stepR_pos pb c1) (fun z => g ((meet_iff pa pb ne c1).mp z)) h
theorem mm_end {rs : List Run} {a b : Option Run} {m : Int} (k : ∀ r ∈ rs, 1 ≤ r.2) (pa : PosO a) (pb : PosO b) (h : mmR rs a b = some m) : stR rs a = stR rs b := by
  unfold mmR at h
  by_cases e : a = b
  · rw [e]
  · rw [if_neg e] at h
    exact mg_end rs a b 0 m k pa pb e h
theorem mm_bd {rs : List Run} {a b : Option Run} {m : Int} (k : ∀ r ∈ rs, 1 ≤ r.2) (pa : PosO a) (pb : PosO b) (h : mmR rs a b = some m) : 0 ≤ m ∧ m ≤ lenR rs := by
  unfold mmR at h
  by_cases e : a = b
  · rw [if_pos e] at h
    cases h
    exact ⟨Int.le_refl _, lenR_nn k⟩
  · rw [if_neg e] at h
    have := mg_bd rs a b 0 m k pa pb h
    omega
/-- item by item -/
def fewI : List Str → Option Run → Option Run → Int → Option Int
  | [], a, b, m => if a = b then some m else none
  | k :: t, a, b, m => if a = b then some m else fewI t (stepR a k 1) (stepR b k 1) (m + 1)
theorem few_eq {l : List Str} {a : Option Run} {m : Int} : fewI l a a m = some m := by
  cases l with
  | nil => exact if_pos rfl
  | cons k t => exact if_pos rfl
theorem few_run : ∀ (c : Nat) (k : Str) (rest : List Str) (a b : Option Run) (m : Int), PosO a → PosO b → a ≠ b → fewI (List.replicate (c + 1) k ++ rest) a b m = if MW a b k ((c : Int) + 1) then some (m + numR a) else fewI rest (stepR a k ((c : Int) + 1)) (stepR b k ((c : Int) + 1)) (m + ((c : Int) + 1))
  | c, k, rest, a, b, m, pa, pb, ne => by
    have h1 : fewI (List.replicate (c + 1) k ++ rest) a b m = fewI (List.replicate c k ++ rest) (stepR a k 1) (stepR b k 1) (m + 1) := by
      rw [List.replicate_succ]
      exact if_neg ne
    have pa1 := stepR_pos (k := k) (c := 1) pa (by decide)
    have pb1 := stepR_pos (k := k) (c := 1) pb (by decide)
    have i1 := meet_iff (k := k) (c := 1) pa pb ne (by decide)
    rw [h1]
    by_cases e : stepR a k 1 = stepR b k 1
    · have w := i1.mp e
      have w2 : MW a b k ((c : Int) + 1) := ⟨w.1, w.2.1, w.2.2.1, by have := w.2.2.2; omega⟩
      have na : numR a = 1 := by
        have h3 := num_nn pa
        have h4 := w.2.2
        rcases (show numR a = 1 ∨ numR a = 0 by omega) with z | z
        · exact z
        · exfalso
          have an : a = none := by
            cases a with
            | none => rfl
            | some r =>
              have := pa r rfl
              have z : r.2 = 0 := z
              omega
          have bn : b = none := by
            cases b with
            | none => rfl
            | some r =>
              have := pb r rfl
              have z2 : r.2 = numR (some r) := rfl
              omega
          exact ne (an.trans bn.symm)
      rw [e, few_eq, if_pos w2, na]
    · cases c with
      | zero =>
        have w2 : ¬ MW a b k (((0 : Nat) : Int) + 1) := fun z => e (i1.mpr z)
        rw [if_neg w2]
        rfl
      | succ c =>
        have ih := few_run c k rest (stepR a k 1) (stepR b k 1) (m + 1) pa1 pb1 e
        rw [ih]
        have ea := step_step (s := a) (k := k) (c := (c : Int) + 1) pa (by omega)
        have eb := step_step (s := b) (k := k) (c := (c : Int) + 1) pb (by omega)
        have cc : (1 : Int) + ((c : Int) + 1) = (((c + 1 : Nat) : Int) + 1) := by omega
        rw [cc] at ea eb
        have iff1 := meet_iff (k := k) (c := (c : Int) + 1) pa1 pb1 e (by omega)
        have iff2 := meet_iff (k := k) (c := ((c + 1 : Nat) : Int) + 1) pa pb ne (by omega)
        rw [ea, eb] at iff1
        by_cases g : MW a b k (((c + 1 : Nat) : Int) + 1)
        · have g1 := iff1.mp (iff2.mpr g)
          rw [if_pos g, if_pos g1]
          congr 1
          cases a with
          | none =>
            exfalso
            have := g.2.2.1
            cases b with
            | none => exact ne rfl
            | some s =>
              have h2 := pb s rfl
              have : (0 : Int) = s.2 := this
              omega
          | some r =>
            have rk : r.1 ≠ k := fun z => g.1 (by show V.str r.1 = V.str k; rw [z])
            rcases step_cases (r := r) (k := k) (c := 1) with ⟨f, fs⟩ | ⟨f, j, fs⟩ | ⟨f, j, fs⟩ | ⟨f, j, fs⟩
            · exact absurd f rk
            · rw [fs]
              show m + 1 + (r.2 - 1) = m + r.2
              omega
            · exfalso
              have gb := g.2.2.1
              cases b with
              | none =>
                have gb : r.2 = 0 := gb
                omega
              | some s =>
                have sk : s.1 ≠ k := fun z => g.2.1 (by show V.str s.1 = V.str k; rw [z])
                have gb : r.2 = s.2 := gb
                rcases step_cases (r := s) (k := k) (c := 1) with ⟨u, us⟩ | ⟨u, v, us⟩ | ⟨u, v, us⟩ | ⟨u, v, us⟩
                · exact sk u
                · omega
                · exact e (by rw [fs, us])
                · omega
            · have := pa r rfl
              omega
        · have g1 : ¬ MW (stepR a k 1) (stepR b k 1) k ((c : Int) + 1) := fun z => g (iff2.mp (iff1.mpr z))
          rw [if_neg g, if_neg g1, ea, eb, show m + 1 + ((c : Int) + 1) = m + (((c + 1 : Nat) : Int) + 1) by omega]
theorem few_mg : ∀ (rs : List Run) (a b : Option Run) (m : Int), (∀ r ∈ rs, 1 ≤ r.2) → PosO a → PosO b → a ≠ b → fewI (itR rs) a b m = mgR rs a b m
  | [], _, _, _, _, _, _, ne => if_neg ne
  | r :: t, a, b, m, k, pa, pb, ne => by
    have c1 := k r (List.mem_cons_self ..)
    have kt : ∀ x ∈ t, 1 ≤ x.2 := fun x hx => k x (List.mem_cons_of_mem _ hx)
    obtain ⟨c, hc⟩ : ∃ c : Nat, r.2.toNat = c + 1 := ⟨r.2.toNat - 1, by omega⟩
    have er : ((c : Int) + 1) = r.2 := by omega
    have e : itR (r :: t) = List.replicate r.2.toNat r.1 ++ itR t := rfl
    rw [e, hc, few_run c r.1 (itR t) a b m pa pb ne, er]
    show _ = (if MW a b r.1 r.2 then some (m + numR a) else mgR t (stepR a r.1 r.2) (stepR b r.1 r.2) (m + r.2))
    by_cases g : MW a b r.1 r.2
    · rw [if_pos g, if_pos g]
    · rw [if_neg g, if_neg g]
      exact few_mg t _ _ _ kt (stepR_pos pa c1) (stepR_pos pb c1) (fun z => g ((meet_iff pa pb ne c1).mp z))
theorem few_mm {rs : List Run} {a b : Option Run} (k : ∀ r ∈ rs, 1 ≤ r.2) (pa : PosO a) (pb : PosO b) : fewI (itR rs) a b 0 = mmR rs a b := by
  unfold mmR
  by_cases e : a = b
  · rw [if_pos e, e, few_eq]
  · rw [if_neg e]
    exact few_mg rs a b 0 k pa pb e
def oV : Option Int → V
  | none => .non
  | some i => .int i
section
variable {P : Program} {w : World} {K : PySem.W.Frag} {mg : Str → Option Value} {base : Heap}
end
end UP

set_option Elab.async false
set_option linter.all false
set_option maxRecDepth 100000
set_option maxHeartbeats 4000000
namespace UP
open PySem PySem.Spec PyProof.Rows L2
theorem Reel.runs_ne {H : Hp} {p a : Addr} {rs : List Run} (z : Reel H p) (h : Runs H a rs) : a ≠ p := by
  obtain ⟨xs, e, hp⟩ := h
  obtain ⟨g, c, gs, cs, n, s, hs, _⟩ := z
  refine ne_of e hs fun q => ?_
  have q := HO.lst.inj q
  subst q
  cases hp with
  | cons _ hp =>
  cases hp with
  | cons _ hp =>
  cases hp with
  | cons h _ =>
    obtain ⟨t, e, _⟩ := h
    cases e
theorem RB.runs {p a : Addr} {H H' : Hp} {rs : List Run} (b : RB p H H') (z : Reel H p) (h : Runs H a rs) : Runs H' a rs := by
  have n := z.runs_ne h
  obtain ⟨xs, e, hp⟩ := h
  exact ⟨xs, b.but _ _ n e, Paired.imp (fun _ _ => b.run z) hp⟩
theorem altR_snoc {l : List Run} {x : Run} (h : Alt l) (k : ∀ y, l[l.length - 1]? = some y → y.1 ≠ x.1) : Alt (l ++ [x]) := alt_snoc h k
section
variable {P : Program} {w : World} {K : PySem.W.Frag} {mg : Str → Option Value} {base : Heap}
end
end UP

set_option Elab.async false
set_option linter.all false
set_option maxRecDepth 100000
set_option maxHeartbeats 4000000
set_option pp.maxSteps 500
/-! ### dicts whose keys are None and tuples, at the machine's level -/
namespace UP.Dx
open PySem
open Sem (wp)
/-- the value v is the key k, and is None or a tuple -/
structure KeyAt (h : Heap) (k : NestedKey) (v : Value) : Prop where
  tell : NestedIs h k v
  low : k.depth ≤ 8
  form : v = .none ∨ ∃ a, v = .ref a
theorem KeyAt.one {h : Heap} {v : Value} {x y : NestedKey} (p : KeyAt h x v) (q : KeyAt h y v) : x = y := NestedIs.inj x y v p.tell q.tell
/-- the entries es have the keys ks -/
structure Ents (w : World) (h : Heap) (es : Array DictEntry) (ks : List NestedKey) : Prop where
  len : ks.length = es.size
  ent : ∀ (i : Nat) (k : NestedKey), ks[i]? = some k → ∃ e, es[i]? = some e ∧ e.hash = k.hash w ∧ KeyAt h k e.key
  once : ks.Nodup
def place (ks : List NestedKey) (k : NestedKey) : Option Nat := ks.findIdx? fun x => decide (x = k)
theorem place_at {ks : List NestedKey} (nd : ks.Nodup) {i : Nat} {k : NestedKey} (h : ks[i]? = some k) : place ks k = some i := by
  obtain ⟨l, e⟩ := List.getElem?_eq_some_iff.mp h
  refine List.findIdx?_eq_some_iff_getElem.mpr ⟨l, decide_eq_true e, fun j hj z => ?_⟩
  have ej : ks[j]'(Nat.lt_trans hj l) = ks[i] := (of_decide_eq_true z).trans e.symm
  exact absurd ((List.getElem_inj nd).mp ej) (Nat.ne_of_lt hj)
theorem place_no {ks : List NestedKey} {k : NestedKey} (h : ∀ i : Nat, ks[i]? ≠ some k) : place ks k = none := by
  refine List.findIdx?_eq_none_iff.mpr fun x hx => decide_eq_false fun e => ?_
  obtain ⟨i, hi⟩ := List.getElem?_of_mem hx
  exact h i (by rw [hi, e])
theorem place_ok {ks : List NestedKey} {i : Nat} {k : NestedKey} (h : place ks k = some i) : ks[i]? = some k := by
  obtain ⟨l, e, _⟩ := List.findIdx?_eq_some_iff_getElem.mp h
  rw [List.getElem?_eq_getElem l, of_decide_eq_true e]
theorem place_none {ks : List NestedKey} {k : NestedKey} (h : place ks k = none) : k ∉ ks := fun hm => by
  have := List.findIdx?_eq_none_iff.mp h k hm
  rw [decide_eq_true rfl] at this
  cases this
section
variable {prog : Program} {w : World} {A : Around} {E : Value → Shared → Prop} {s : Shared}
theorem hash_of {k : NestedKey} {v : Value} {Q : Int → Shared → Prop} (hu : A.units + 8 < cLine) (hk : KeyAt s.heap k v) (q : Q (k.hash w) { s with toks := s.toks + k.draws }) : wpAny (model prog w) A (pyHash v) Q E s :=
  pyHash_key k v A s Q hk.tell (Nat.lt_of_le_of_lt (Nat.add_le_add_left hk.low _) hu) q
theorem same_of {x y : NestedKey} {a b : Value} {Q : Bool → Shared → Prop} (hu : A.units + 8 < cLine) (hx : KeyAt s.heap x a) (hy : KeyAt s.heap y b) (q : Q (decide (x = y)) s) : wpAny (model prog w) A (eqBool a b) Q E s := by
  refine eqAt_key x y A s a b hx.tell hy.tell (Nat.lt_of_le_of_lt (Nat.add_le_add_left (Nat.le_trans (Nat.min_le_left _ _) hx.low) _) hu) prog w E Q ?_
  rw [← NestedKey.decide_eq]
  exact q
theorem still_of {k : NestedKey} {v : Value} {Q : Bool → Shared → Prop} (hk : KeyAt s.heap k v) (q : Q true s) : wpAny (model prog w) A (eqIsQuiet 8 v) Q E s := quiet_key k v 8 s hk.tell hk.low A E Q q
/-- no key of these tells that it is compared -/
theorem mute {v : Value} {k : NestedKey} {l : List Value} {Q : Bool → Shared → Prop} (hk : KeyAt s.heap k v) (hl : ∀ u ∈ l, ∃ y, KeyAt s.heap y u) (q : Q false s) : wpAny (model prog w) A (tableMayTell v l) Q E s := by
  unfold tableMayTell
  split
  · exact wpAny_pure q
  refine wpAny_bind (still_of hk ?_)
  simp only [Bool.not_true, Bool.false_eq_true, if_false]
  refine wpAny_bind (wpAny_forIn_list _ (fun todo r t => (t = s ∧ r = (none, ())) ∧ ∀ u ∈ todo, ∃ y, KeyAt s.heap y u) _ ?_ ?_ _ _ ⟨⟨rfl, rfl⟩, hl⟩)
  · rintro u todo r t ⟨⟨rfl, rfl⟩, ok⟩
    obtain ⟨y, hy⟩ := ok u (List.mem_cons_self ..)
    refine wpAny_bind (still_of hy ?_)
    simp only [Bool.not_true, Bool.false_eq_true, if_false]
    exact wpAny_pure ⟨⟨rfl, rfl⟩, fun z hz => ok z (List.mem_cons_of_mem _ hz)⟩
  · rintro r t ⟨⟨rfl, rfl⟩, _⟩
    exact wpAny_pure q
variable {d : Addr} {v : Value} {o : Obj} {es : Array DictEntry} {ep : Nat} {ks : List NestedKey} {k : NestedKey}
theorem Ents.key {i : Nat} {e : DictEntry} (hE : Ents w s.heap es ks) (hi : es[i]? = some e) : ∃ y, ks[i]? = some y ∧ e.hash = y.hash w ∧ KeyAt s.heap y e.key := by
  have l : i < ks.length := by rw [hE.len]; exact (Array.getElem?_eq_some_iff.mp hi).1
  obtain ⟨e', h1, h2, h3⟩ := hE.ent i _ (List.getElem?_eq_getElem l)
  rw [hi] at h1
  cases h1
  exact ⟨_, List.getElem?_eq_getElem l, h2, h3⟩
theorem in_places (hE : Ents w s.heap es ks) {i : Nat} (h : ks[i]? = some k) : i ∈ placesWithHash es.size (fun i => es[i]?.map (·.hash)) (k.hash w) := by
  obtain ⟨e, h1, h2, _⟩ := hE.ent i k h
  unfold placesWithHash
  refine List.mem_filter.mpr ⟨List.mem_range.mpr (Array.getElem?_eq_some_iff.mp h1).1, ?_⟩
  show (es[i]?.map (·.hash) == some (NestedKey.hash w k)) = true
  rw [h1, Option.map_some, h2]
  exact beq_self_eq_true _
theorem places_lt {i : Nat} {n : Nat} {f : Nat → Option Int} {x : Int} (h : i ∈ placesWithHash n f x) : i < n ∧ f i = some x := by
  unfold placesWithHash at h
  obtain ⟨h1, h2⟩ := List.mem_filter.mp h
  exact ⟨List.mem_range.mp h1, eq_of_beq h2⟩
/-- what is known of the places gone through: none is k's, or p is -/
def Seen (ks : List NestedKey) (k : NestedKey) (gone : List Nat) : Option Nat → Prop
  | none => ∀ p ∈ gone, ks[p]? ≠ some k
  | some p => p ∈ gone ∧ ks[p]? = some k
theorem Seen.more {gone : List Nat} {hit : Option Nat} {x : Nat} (h : Seen ks k gone hit) (n : ks[x]? ≠ some k) : Seen ks k (gone ++ [x]) hit := by
  cases hit with
  | some p => exact ⟨List.mem_append_left _ h.1, h.2⟩
  | none =>
    intro p hp
    rcases List.mem_append.mp hp with z | z
    · exact h p z
    · rw [List.mem_singleton.mp z]
      exact n
theorem Seen.last (hE : Ents w s.heap es ks) {hit : Option Nat} (h : Seen ks k (placesWithHash es.size (fun i => es[i]?.map (·.hash)) (k.hash w)) hit) : place ks k = hit := by
  cases hit with
  | some p => exact place_at hE.once h.2
  | none => exact place_no fun i hi => h i (in_places hE hi) hi
theorem plain_find {Q : Option Nat → Shared → Prop} (hu : A.units + 8 < cLine) (hk : KeyAt s.heap k v) (ho : s.heap.get? d = some o) (hd : o.data = .dict es ep) (hE : Ents w s.heap es ks) (q : Q (place ks k) s) :
    wpAny (model prog w) A (dictWalkPlain d v (k.hash w) es (placesWithHash es.size (fun i => es[i]?.map (·.hash)) (k.hash w))) Q E s := by
  have lt : ∀ p ∈ placesWithHash es.size (fun i => es[i]?.map (·.hash)) (k.hash w), p < es.size := fun p hp => (places_lt hp).1
  have fin := fun hit => Seen.last (k := k) (hit := hit) hE
  unfold dictWalkPlain
  generalize placesWithHash es.size (fun i => es[i]?.map (·.hash)) (k.hash w) = ps at *
  refine wpAny_bind (wpAny_forIn_list _ (fun todo b t => (t = s ∧ b = (none, ())) ∧ ∃ gone, gone ++ todo = ps ∧ Seen ks k gone none) _ ?_ ?_ _ _ ⟨⟨rfl, rfl⟩, [], rfl, fun p hp => by cases hp⟩)
  · rintro x todo b t ⟨⟨rfl, rfl⟩, gone, eg, hs⟩
    have xl := lt x (by rw [← eg]; exact List.mem_append_right _ (List.mem_cons_self ..))
    obtain ⟨y, hy, h1, h2⟩ := hE.key (Array.getElem?_eq_getElem xl)
    have nxt : y ≠ k → ∃ gone, gone ++ todo = ps ∧ Seen ks k gone none := fun n => ⟨gone ++ [x], by rw [List.append_assoc]; exact eg, hs.more fun z => n (by rw [hy] at z; exact Option.some.inj z)⟩
    simp only [Array.getElem?_eq_getElem xl]
    split
    · refine wpAny_bind (wpAny_dictEpoch ho hd (wpAny_bind (same_of hu h2 hk (wpAny_bind (wpAny_dictEpoch ho hd ?_)))))
      simp only [bne_self_eq_false, Bool.false_eq_true, if_false]
      by_cases e : y = k
      · rw [decide_eq_true e]
        rw [place_at hE.once (by rw [hy, e])] at q
        exact wpAny_bind (wpAny_rule (wpAny_pure (wpAny_pure q)))
      · rw [decide_eq_false e]
        exact wpAny_bind (wpAny_rule (wpAny_pure ⟨⟨rfl, rfl⟩, nxt e⟩))
    · next n => exact wpAny_pure ⟨⟨rfl, rfl⟩, nxt fun e => n (by rw [h1, e]; exact beq_self_eq_true _)⟩
  · rintro b t ⟨⟨rfl, rfl⟩, gone, eg, hs⟩
    rw [List.append_nil] at eg
    subst eg
    refine wpAny_pure ?_
    rw [fin none hs] at q
    exact q
theorem find_k {Q : Option Nat → Shared → Prop} (hu : A.units + 8 < cLine) (hk : KeyAt s.heap k v) (ho : s.heap.get? d = some o) (hd : o.data = .dict es ep) (hE : Ents w s.heap es ks) (q : Q (place ks k) s) :
    wpAny (model prog w) A (dictFind d v (k.hash w)) Q E s := by
  have pf := plain_find (E := E) (prog := prog) hu hk ho hd hE q
  have lt : ∀ p ∈ placesWithHash es.size (fun i => es[i]?.map (·.hash)) (k.hash w), p < es.size := fun p hp => (places_lt hp).1
  have fin := fun hit => Seen.last (k := k) (hit := hit) hE
  have nd : (placesWithHash es.size (fun i => es[i]?.map (·.hash)) (k.hash w)).Nodup := List.nodup_range.filter _
  have st : ∀ u ∈ (placesWithHash es.size (fun i => es[i]?.map (·.hash)) (k.hash w)).filterMap (fun i => es[i]?.map (·.key)), ∃ y, KeyAt s.heap y u := fun u hu' => by
    obtain ⟨i, hi, e1⟩ := List.mem_filterMap.mp hu'
    have il := lt i hi
    rw [Array.getElem?_eq_getElem il, Option.map_some] at e1
    cases e1
    obtain ⟨y, _, _, h2⟩ := hE.key (Array.getElem?_eq_getElem il)
    exact ⟨y, h2⟩
  unfold dictFind
  try with_reducible refine wpAny_holding ?_
  refine wpAny_bind (wpAny_dictEntries ho hd ?_)
  generalize hps : placesWithHash es.size (fun i => es[i]?.map (·.hash)) (k.hash w) = ps at *
  rcases hk.form with ev | ⟨a, ev⟩
  · subst ev
    dsimp only
    by_cases c1 : (Value.none :: List.filterMap (fun i => es[i]?.map (·.key)) ps).all carriedByValue = true
    · rw [if_pos c1]
      exact pf
    rw [if_neg c1]
    by_cases c2 : (List.filterMap (fun i => es[i]?.map (·.key)) ps == [Value.none]) = true
    · rw [if_pos c2]
      refine wpAny_bind (wpAny_pure ?_)
      rw [if_neg (show ¬ (false && _) = true by rw [Bool.false_and]; exact Bool.false_ne_true)]
      refine wpAny_bind (wpAny_forIn_list _ (fun todo b t => t = s ∧ ∃ hit gone, b = (none, hit) ∧ gone ++ todo = ps ∧ Seen ks k gone hit) _ ?_ ?_ _ _ ⟨rfl, none, [], rfl, rfl, fun p hp => by cases hp⟩)
      · rintro x todo b t ⟨rfl, hit, gone, rfl, eg, hs⟩
        have xl := lt x (by rw [← eg]; exact List.mem_append_right _ (List.mem_cons_self ..))
        have eg2 : (gone ++ [x]) ++ todo = ps := by rw [List.append_assoc]; exact eg
        obtain ⟨y, hy, h1, h2⟩ := hE.key (Array.getElem?_eq_getElem xl)
        simp only [Array.getElem?_eq_getElem xl]
        split
        · refine wpAny_bind (wpAny_dictEpoch ho hd (wpAny_bind (same_of hu h2 hk (wpAny_bind (wpAny_dictEpoch ho hd ?_)))))
          rw [if_neg (show ¬ (ep != ep) = true by rw [bne_self_eq_false]; exact Bool.false_ne_true)]
          by_cases e : y = k
          · have hx : ks[x]? = some k := by rw [hy, e]
            rw [decide_eq_true e]
            cases hit with
            | some p =>
              have px := place_at hE.once hs.2
              rw [place_at hE.once hx] at px
              cases px
              rw [← eg, List.nodup_append] at nd
              exact absurd rfl (nd.2.2 _ hs.1 _ (List.mem_cons_self ..))
            | none =>
              simp only [if_true, Option.isSome_none, Bool.false_eq_true, if_false]
              refine wpAny_bind (wpAny_rule ?_)
              split
              · rw [place_at hE.once hx] at q
                exact wpAny_pure (wpAny_pure q)
              · exact wpAny_pure ⟨rfl, some x, gone ++ [x], rfl, eg2, List.mem_append_right _ (List.mem_cons_self ..), hx⟩
          · rw [decide_eq_false e]
            simp only [Bool.false_eq_true, if_false]
            exact wpAny_bind (wpAny_rule (wpAny_pure ⟨rfl, hit, gone ++ [x], rfl, eg2, hs.more fun z => e (by rw [hy] at z; exact Option.some.inj z)⟩))
        · next n => exact wpAny_pure ⟨rfl, hit, gone ++ [x], rfl, eg2, hs.more fun z => n (by rw [hy] at z; rw [h1, Option.some.inj z]; exact beq_self_eq_true _)⟩
      · rintro b t ⟨rfl, hit, gone, rfl, eg, hs⟩
        rw [List.append_nil] at eg
        subst eg
        rw [fin hit hs] at q
        exact wpAny_pure q
    · rw [if_neg c2]
      refine wpAny_bind (mute hk st ?_)
      rw [if_neg (show ¬ (false && _) = true by rw [Bool.false_and]; exact Bool.false_ne_true)]
      refine wpAny_bind (wpAny_forIn_list _ (fun todo b t => t = s ∧ ∃ hit gone, b = (none, hit) ∧ gone ++ todo = ps ∧ Seen ks k gone hit) _ ?_ ?_ _ _ ⟨rfl, none, [], rfl, rfl, fun p hp => by cases hp⟩)
      · rintro x todo b t ⟨rfl, hit, gone, rfl, eg, hs⟩
        have xl := lt x (by rw [← eg]; exact List.mem_append_right _ (List.mem_cons_self ..))
        have eg2 : (gone ++ [x]) ++ todo = ps := by rw [List.append_assoc]; exact eg
        obtain ⟨y, hy, h1, h2⟩ := hE.key (Array.getElem?_eq_getElem xl)
        simp only [Array.getElem?_eq_getElem xl]
        split
        · refine wpAny_bind (wpAny_dictEpoch ho hd (wpAny_bind (same_of hu h2 hk (wpAny_bind (wpAny_dictEpoch ho hd ?_)))))
          rw [if_neg (show ¬ (ep != ep) = true by rw [bne_self_eq_false]; exact Bool.false_ne_true)]
          by_cases e : y = k
          · have hx : ks[x]? = some k := by rw [hy, e]
            rw [decide_eq_true e]
            cases hit with
            | some p =>
              have px := place_at hE.once hs.2
              rw [place_at hE.once hx] at px
              cases px
              rw [← eg, List.nodup_append] at nd
              exact absurd rfl (nd.2.2 _ hs.1 _ (List.mem_cons_self ..))
            | none =>
              simp only [if_true, Option.isSome_none, Bool.false_eq_true, if_false]
              refine wpAny_bind (wpAny_rule ?_)
              split
              · rw [place_at hE.once hx] at q
                exact wpAny_pure (wpAny_pure q)
              · exact wpAny_pure ⟨rfl, some x, gone ++ [x], rfl, eg2, List.mem_append_right _ (List.mem_cons_self ..), hx⟩
          · rw [decide_eq_false e]
            simp only [Bool.false_eq_true, if_false]
            exact wpAny_bind (wpAny_rule (wpAny_pure ⟨rfl, hit, gone ++ [x], rfl, eg2, hs.more fun z => e (by rw [hy] at z; exact Option.some.inj z)⟩))
        · next n => exact wpAny_pure ⟨rfl, hit, gone ++ [x], rfl, eg2, hs.more fun z => n (by rw [hy] at z; rw [h1, Option.some.inj z]; exact beq_self_eq_true _)⟩
      · rintro b t ⟨rfl, hit, gone, rfl, eg, hs⟩
        rw [List.append_nil] at eg
        subst eg
        rw [fin hit hs] at q
        exact wpAny_pure q
  · subst ev
    dsimp only
    have no : ¬ (es.any fun e => e.key == Value.ref a && e.hash != k.hash w) = true := fun z => by
      obtain ⟨i, hi, z⟩ := Array.any_eq_true.mp z
      obtain ⟨y, _, h1, h2⟩ := hE.key (Array.getElem?_eq_getElem hi)
      rw [Bool.and_eq_true] at z
      rw [eq_of_beq z.1] at h2
      rw [h1, h2.one hk] at z
      simp at z
    rw [if_neg (show ¬ (Value.ref a :: List.filterMap (fun i => es[i]?.map (·.key)) ps).all carriedByValue = true by rw [List.all_cons]; exact Bool.false_ne_true), if_neg no]
    by_cases c2 : (List.filterMap (fun i => es[i]?.map (·.key)) ps == [Value.ref a]) = true
    · rw [if_pos c2]
      refine wpAny_bind (wpAny_pure ?_)
      rw [if_neg (show ¬ (false && _) = true by rw [Bool.false_and]; exact Bool.false_ne_true)]
      refine wpAny_bind (wpAny_forIn_list _ (fun todo b t => t = s ∧ ∃ hit gone, b = (none, hit) ∧ gone ++ todo = ps ∧ Seen ks k gone hit) _ ?_ ?_ _ _ ⟨rfl, none, [], rfl, rfl, fun p hp => by cases hp⟩)
      · rintro x todo b t ⟨rfl, hit, gone, rfl, eg, hs⟩
        have xl := lt x (by rw [← eg]; exact List.mem_append_right _ (List.mem_cons_self ..))
        have eg2 : (gone ++ [x]) ++ todo = ps := by rw [List.append_assoc]; exact eg
        obtain ⟨y, hy, h1, h2⟩ := hE.key (Array.getElem?_eq_getElem xl)
        simp only [Array.getElem?_eq_getElem xl]
        split
        · refine wpAny_bind (wpAny_dictEpoch ho hd (wpAny_bind (same_of hu h2 hk (wpAny_bind (wpAny_dictEpoch ho hd ?_)))))
          rw [if_neg (show ¬ (ep != ep) = true by rw [bne_self_eq_false]; exact Bool.false_ne_true)]
          by_cases e : y = k
          · have hx : ks[x]? = some k := by rw [hy, e]
            rw [decide_eq_true e]
            cases hit with
            | some p =>
              have px := place_at hE.once hs.2
              rw [place_at hE.once hx] at px
              cases px
              rw [← eg, List.nodup_append] at nd
              exact absurd rfl (nd.2.2 _ hs.1 _ (List.mem_cons_self ..))
            | none =>
              simp only [if_true, Option.isSome_none, Bool.false_eq_true, if_false]
              refine wpAny_bind (wpAny_rule ?_)
              split
              · rw [place_at hE.once hx] at q
                exact wpAny_pure (wpAny_pure q)
              · exact wpAny_pure ⟨rfl, some x, gone ++ [x], rfl, eg2, List.mem_append_right _ (List.mem_cons_self ..), hx⟩
          · rw [decide_eq_false e]
            simp only [Bool.false_eq_true, if_false]
            exact wpAny_bind (wpAny_rule (wpAny_pure ⟨rfl, hit, gone ++ [x], rfl, eg2, hs.more fun z => e (by rw [hy] at z; exact Option.some.inj z)⟩))
        · next n => exact wpAny_pure ⟨rfl, hit, gone ++ [x], rfl, eg2, hs.more fun z => n (by rw [hy] at z; rw [h1, Option.some.inj z]; exact beq_self_eq_true _)⟩
      · rintro b t ⟨rfl, hit, gone, rfl, eg, hs⟩
        rw [List.append_nil] at eg
        subst eg
        rw [fin hit hs] at q
        exact wpAny_pure q
    · rw [if_neg c2]
      refine wpAny_bind (mute hk st ?_)
      rw [if_neg (show ¬ (false && _) = true by rw [Bool.false_and]; exact Bool.false_ne_true)]
      refine wpAny_bind (wpAny_forIn_list _ (fun todo b t => t = s ∧ ∃ hit gone, b = (none, hit) ∧ gone ++ todo = ps ∧ Seen ks k gone hit) _ ?_ ?_ _ _ ⟨rfl, none, [], rfl, rfl, fun p hp => by cases hp⟩)
      · rintro x todo b t ⟨rfl, hit, gone, rfl, eg, hs⟩
        have xl := lt x (by rw [← eg]; exact List.mem_append_right _ (List.mem_cons_self ..))
        have eg2 : (gone ++ [x]) ++ todo = ps := by rw [List.append_assoc]; exact eg
        obtain ⟨y, hy, h1, h2⟩ := hE.key (Array.getElem?_eq_getElem xl)
        simp only [Array.getElem?_eq_getElem xl]
        split
        · refine wpAny_bind (wpAny_dictEpoch ho hd (wpAny_bind (same_of hu h2 hk (wpAny_bind (wpAny_dictEpoch ho hd ?_)))))
          rw [if_neg (show ¬ (ep != ep) = true by rw [bne_self_eq_false]; exact Bool.false_ne_true)]
          by_cases e : y = k
          · have hx : ks[x]? = some k := by rw [hy, e]
            rw [decide_eq_true e]
            cases hit with
            | some p =>
              have px := place_at hE.once hs.2
              rw [place_at hE.once hx] at px
              cases px
              rw [← eg, List.nodup_append] at nd
              exact absurd rfl (nd.2.2 _ hs.1 _ (List.mem_cons_self ..))
            | none =>
              simp only [if_true, Option.isSome_none, Bool.false_eq_true, if_false]
              refine wpAny_bind (wpAny_rule ?_)
              split
              · rw [place_at hE.once hx] at q
                exact wpAny_pure (wpAny_pure q)
              · exact wpAny_pure ⟨rfl, some x, gone ++ [x], rfl, eg2, List.mem_append_right _ (List.mem_cons_self ..), hx⟩
          · rw [decide_eq_false e]
            simp only [Bool.false_eq_true, if_false]
            exact wpAny_bind (wpAny_rule (wpAny_pure ⟨rfl, hit, gone ++ [x], rfl, eg2, hs.more fun z => e (by rw [hy] at z; exact Option.some.inj z)⟩))
        · next n => exact wpAny_pure ⟨rfl, hit, gone ++ [x], rfl, eg2, hs.more fun z => n (by rw [hy] at z; rw [h1, Option.some.inj z]; exact beq_self_eq_true _)⟩
      · rintro b t ⟨rfl, hit, gone, rfl, eg, hs⟩
        rw [List.append_nil] at eg
        subst eg
        rw [fin hit hs] at q
        exact wpAny_pure q
/-- at d stands a dict with these entries -/
def DictE (w : World) (h : Heap) (d : Addr) (es : Array DictEntry) (ks : List NestedKey) : Prop := ∃ o ep, h.get? d = some o ∧ o.ExactDict ∧ o.data = .dict es ep ∧ Ents w h es ks
theorem DictE.isDict (D : DictE w s.heap d es ks) : s.TypeIs (.ref d) "dict" := by
  obtain ⟨o, _, h1, h2, _⟩ := D
  exact ⟨o, h1, h2.1⟩
def gotE (es : Array DictEntry) (ks : List NestedKey) (k : NestedKey) : Option Value := (place ks k).bind fun i => es[i]?.map (·.val)
theorem look {Q : Option Value → Shared → Prop} (hu : A.units + 8 < cLine) (hk : KeyAt s.heap k v) (D : DictE w s.heap d es ks) (q : Q (gotE es ks k) { s with toks := s.toks + k.draws }) : wpAny (model prog w) A (dictGet d v) Q E s := by
  obtain ⟨o, ep, ho, _, hd, hE⟩ := D
  unfold dictGet
  try with_reducible refine wpAny_holding ?_
  refine wpAny_bind (hash_of hu hk (wpAny_bind (find_k (s := { s with toks := s.toks + k.draws }) hu hk ho hd hE ?_)))
  unfold gotE at q
  cases hp : place ks k with
  | none =>
    rw [hp] at q
    exact wpAny_pure q
  | some i =>
    rw [hp] at q
    exact wpAny_bind (wpAny_dictEntries (s := { s with toks := s.toks + k.draws }) ho hd (wpAny_pure q))
theorem KeyAt.stay {h h' : Heap} {k : NestedKey} {v : Value} (hk : KeyAt h k v) (ho : h.get? d = some o) (hd : o.data = .dict es ep) (sb : Heap.SameBut d h h') : KeyAt h' k v := by
  refine ⟨NestedIs.at (fun b ob l n e1 e2 => ?_) k v hk.tell, hk.low, hk.form⟩
  have nb : b ≠ d := fun z => by
    rw [z, ho] at e1
    cases e1
    rw [hd] at e2
    cases e2
  exact (sb.2 b nb).trans e1
theorem Ents.stay {h h' : Heap} (hE : Ents w h es ks) (ho : h.get? d = some o) (hd : o.data = .dict es ep) (sb : Heap.SameBut d h h') : Ents w h' es ks := by
  refine ⟨hE.len, fun i k hi => ?_, hE.once⟩
  obtain ⟨e, h1, h2, h3⟩ := hE.ent i k hi
  exact ⟨e, h1, h2, h3.stay ho hd sb⟩
theorem Ents.add {h : Heap} {x : Value} (hE : Ents w h es ks) (hk : KeyAt h k v) (n : place ks k = none) : Ents w h (es.push ⟨k.hash w, v, x⟩) (ks ++ [k]) := by
  refine ⟨by rw [List.length_append, Array.size_push, hE.len]; rfl, fun i y hi => ?_, ?_⟩
  · rcases Nat.lt_or_ge i ks.length with l | l
    · rw [List.getElem?_append_left l] at hi
      obtain ⟨e, h1, h2⟩ := hE.ent i y hi
      refine ⟨e, ?_, h2⟩
      rw [Array.getElem?_push, if_neg (by rw [← hE.len]; omega)]
      exact h1
    · rw [List.getElem?_append_right l] at hi
      have e0 : i - ks.length = 0 := by
        have := (List.getElem?_eq_some_iff.mp hi).1
        rw [List.length_singleton] at this
        omega
      rw [e0] at hi
      cases hi
      refine ⟨⟨k.hash w, v, x⟩, ?_, rfl, hk⟩
      rw [Array.getElem?_push, if_pos (by rw [← hE.len]; omega)]
  · refine List.nodup_append.mpr ⟨hE.once, List.nodup_cons.mpr ⟨List.not_mem_nil, List.nodup_nil⟩, fun a ha b hb => ?_⟩
    rw [List.mem_singleton.mp hb]
    exact fun z => place_none n (z ▸ ha)
theorem Ents.over {h : Heap} {i : Nat} {x : Value} (hE : Ents w h es ks) : Ents w h (es.modify i fun e => { e with val := x }) ks := by
  refine ⟨by rw [Array.size_modify]; exact hE.len, fun j y hj => ?_, hE.once⟩
  obtain ⟨e, h1, h2, h3⟩ := hE.ent j y hj
  rw [Array.getElem?_modify, h1]
  by_cases c : i = j
  · rw [if_pos c]
    exact ⟨_, rfl, h2, h3⟩
  · rw [if_neg c]
    exact ⟨_, rfl, h2, h3⟩
/-- the entries behind d[k] = x -/
def putE (w : World) (es : Array DictEntry) (ks : List NestedKey) (k : NestedKey) (v x : Value) : Array DictEntry × List NestedKey := match place ks k with
  | some i => (es.modify i fun e => { e with val := x }, ks)
  | none => (es.push ⟨k.hash w, v, x⟩, ks ++ [k])
theorem store {x : Value} {Q : Unit → Shared → Prop} (hu : A.units + 8 < cLine) (hk : KeyAt s.heap k v) (D : DictE w s.heap d es ks) (hz : es.size ≤ sizeLine)
    (q : ∀ h', DictE w h' d (putE w es ks k v x).1 (putE w es ks k v x).2 → Heap.SameBut d s.heap h' → Q () { s with heap := h', toks := s.toks + k.draws }) : wpAny (model prog w) A (dictSet d v x) Q E s := by
  obtain ⟨o, ep, ho, hc, hd, hE⟩ := D
  unfold dictSet
  try with_reducible refine wpAny_holding ?_
  refine wpAny_bind (hash_of hu hk ?_)
  unfold dictSetHashed
  try with_reducible refine wpAny_holding ?_
  refine wpAny_bind (find_k (s := { s with toks := s.toks + k.draws }) hu hk ho hd hE ?_)
  unfold putE at q
  cases hp : place ks k with
  | some i =>
    rw [hp] at q
    have sb : Heap.SameBut d s.heap (s.heap.update d (Obj.mapDict fun l => l.modify i fun e => { e with val := x })) := Heap.SameBut.update ..
    exact wpAny_bind (wpAny_rule (wpAny_bind (wpAny_updateDict (s := { s with toks := s.toks + k.draws }) ho hd (wpAny_point (q _ ⟨_, ep, Heap.get?_update_self _ ho (Obj.isFreed_of_dict (Obj.data_mapDict hd _)), hc.mapDict _, Obj.data_mapDict hd _, (hE.stay ho hd sb).over⟩ sb)))))
  | none =>
    rw [hp] at q
    have sb : Heap.SameBut d s.heap (s.heap.update d (Obj.mapDictKeys fun l => l.push ⟨k.hash w, v, x⟩)) := Heap.SameBut.update ..
    exact wpAny_bind (wpAny_rule (wpAny_updateDictKeys (hz := hz) (s := { s with toks := s.toks + k.draws }) ho hd (q _ ⟨_, ep + 1, Heap.get?_update_self _ ho (Obj.isFreed_of_dict (Obj.data_mapDictKeys hd _)), hc.mapDictKeys _, Obj.data_mapDictKeys hd _, (hE.stay ho hd sb).add (hk.stay ho hd sb) hp⟩ sb)))
theorem gotE_some : (gotE es ks k).isSome = true ↔ ∃ i e, place ks k = some i ∧ es[i]? = some e := by
  unfold gotE
  cases hp : place ks k with
  | none => simp
  | some i => cases he : es[i]? <;> simp [he]
/-- k in d -/
theorem has_k {Q : Value → Shared → Prop} (hu : A.units + 1 + 8 < cLine) (hk : KeyAt s.heap k v) (nm : (d == sysModules) = false) (D : DictE w s.heap d es ks) (q : Q (.bool (gotE es ks k).isSome) { s with toks := s.toks + k.draws }) :
    wpAny (model prog w) A (compareOp .In v (.ref d)) Q E s := by
  show wpAny _ _ (do return .bool (← contains (.ref d) v)) Q E s
  refine wpAny_bind (wpAny_contains_slot D.isDict F.slot_dict_contains (call_meetsIn F.slot_dict_contains D.isDict F.entry_dict_contains (F.args_dict_contains_2 _ _) (S := fun B R t => B = A ∧ t = s ∧ R (.ok (.ret (.bool (gotE es ks k).isSome))) { s with toks := s.toks + k.draws }) (fun B R t hS => ?_) ⟨rfl, rfl, wpAny_truthy_bool (wpAny_pure q)⟩))
  obtain ⟨rfl, rfl, hR⟩ := hS
  show wpAny _ _ (dictGet d v >>= _) _ _ _
  refine wpAny_bind (look (A := B.in1) hu hk D ?_)
  cases hg : gotE es ks k with
  | some x =>
    rw [hg] at hR
    show wpAny _ _ (ret (.bool true)) _ _ _
    exact wpAny_pure hR
  | none =>
    rw [hg] at hR
    show wpAny _ _ (Builtin.Dict.pendingKey? d v >>= _) _ _ _
    exact wpAny_bind (wpAny_pendingKey_other nm (wpAny_pure hR))
/-- d[k], which is there -/
theorem item_k {x : Value} {Q : Value → Shared → Prop} (hu : A.units + 1 + 8 < cLine) (hk : KeyAt s.heap k v) (D : DictE w s.heap d es ks) (g : gotE es ks k = some x) (q : Q x { s with toks := s.toks + k.draws }) : wpAny (model prog w) A (getItem (.ref d) v) Q E s := by
  unfold getItem
  try with_reducible refine wpAny_holding ?_
  refine wpAny_bind (wpAny_sequenceKey D.isDict (by decide) (wpAny_bind (wpAny_callSpecial?_slot (name := Str.ofString "__getitem__") D.isDict slot_dict_getitem (wpAny_call_entry slot_dict_getitem D.isDict entry_dict_getitem ?_ (args_dict_getitem _ _)))))
  show wpAny _ _ (dictGet d v >>= _) _ _ s
  refine wpAny_bind (look (A := A.in1) hu hk D ?_)
  rw [g]
  exact wpAny_pure ⟨x, rfl, wpAny_pure q⟩
/-- d[k] = x -/
theorem put_k {x : Value} {Q : Unit → Shared → Prop} (hu : A.units + 1 + 8 < cLine) (hk : KeyAt s.heap k v) (D : DictE w s.heap d es ks) (hz : es.size ≤ sizeLine)
    (q : ∀ h', DictE w h' d (putE w es ks k v x).1 (putE w es ks k v x).2 → Heap.SameBut d s.heap h' → Q () { s with heap := h', toks := s.toks + k.draws }) : wpAny (model prog w) A (setItem (.ref d) v x) Q E s := by
  unfold setItem
  try with_reducible refine wpAny_holding ?_
  refine wpAny_bind (wpAny_sequenceKey D.isDict (by decide) (wpAny_bind (wpAny_callSpecial?_slot (name := Str.ofString "__setitem__") D.isDict slot_dict_setitem (wpAny_call_entry slot_dict_setitem D.isDict entry_dict_setitem ?_ (args_dict_setitem _ _ _)))))
  show wpAny _ _ (Builtin.Dict.notOrdered "__setitem__" ⟨[.ref d, v, x], []⟩ >>= _) _ _ s
  refine wpAny_bind (wpAny_notOrdered_dict D.isDict ?_)
  show wpAny _ _ (dictSet d v x >>= _) _ _ s
  exact wpAny_bind (store (A := A.in1) hu hk D hz fun h' D' sb => wpAny_pure ⟨.none, rfl, wpAny_pure (q h' D' sb)⟩)
/-- d.get(k, x) -/
theorem get_k {x : Value} {Q : Value → Shared → Prop} (hu : A.units + 1 + 8 < cLine) (hk : KeyAt s.heap k v) (nm : (d == sysModules) = false) (D : DictE w s.heap d es ks) (q : Q ((gotE es ks k).getD x) { s with toks := s.toks + k.draws }) :
    wpAny (model prog w) A (call (.builtin "dict.get") [.ref d, v, x]) Q E s := by
  refine call_meetsIn F.slot_dict_get D.isDict F.entry_dict_get (F.args_dict_get_3 _ _ _) (S := fun B R t => B = A ∧ t = s ∧ R (.ok (.ret ((gotE es ks k).getD x))) { s with toks := s.toks + k.draws }) (fun B R t hS => ?_) ⟨rfl, rfl, q⟩
  obtain ⟨rfl, rfl, hR⟩ := hS
  show wpAny _ _ (dictGet d v >>= _) _ _ _
  refine wpAny_bind (look (A := B.in1) hu hk D ?_)
  cases hg : gotE es ks k with
  | some y =>
    rw [hg] at hR
    exact wpAny_pure hR
  | none =>
    rw [hg] at hR
    show wpAny _ _ (Builtin.Dict.missed d v >>= _) _ _ _
    exact wpAny_bind (wpAny_missed_other nm (wpAny_pure hR))
end
end UP.Dx

set_option Elab.async false
set_option linter.all false
set_option maxRecDepth 100000
set_option maxHeartbeats 4000000
set_option pp.maxSteps 500
/-! ### dicts whose keys are None and tuples: what the walks say of them -/
namespace UP
open PySem PySem.Spec PyProof.Rows L2
mutual
/-- the value v is the key k -/
inductive NK (H : Hp) : NestedKey → V → Prop
  | non : NK H .none .non
  | int (i : Int) : NK H (.num i) (.int i)
  | str (x : Str) : NK H (.text x) (.str x)
  | tup {a : Addr} {xs : List V} {ks : List NestedKey} : H a = some (.tup xs) → NKs H ks xs → NK H (.tup ks) (.ref a)
inductive NKs (H : Hp) : List NestedKey → List V → Prop
  | nil : NKs H [] []
  | cons {k : NestedKey} {v : V} {ks : List NestedKey} {vs : List V} : NK H k v → NKs H ks vs → NKs H (k :: ks) (v :: vs)
end
mutual
theorem NK.at {H H' : Hp} (t : ∀ a xs, H a = some (.tup xs) → H' a = some (.tup xs)) : ∀ {k : NestedKey} {v : V}, NK H k v → NK H' k v
  | _, _, .non => .non
  | _, _, .int i => .int i
  | _, _, .str x => .str x
  | _, _, .tup h r => .tup (t _ _ h) (NKs.at t r)
theorem NKs.at {H H' : Hp} (t : ∀ a xs, H a = some (.tup xs) → H' a = some (.tup xs)) : ∀ {ks : List NestedKey} {vs : List V}, NKs H ks vs → NKs H' ks vs
  | _, _, .nil => .nil
  | _, _, .cons h r => .cons (NK.at t h) (NKs.at t r)
end
mutual
theorem NK.is {P : Program} {w : World} {H : Hp} {h : Heap} (ok : HOk P w H h) : ∀ {k : NestedKey} {v : V} {u : Value}, NK H k v → RelV v u → NestedIs h k u
  | _, _, _, .non, r => by cases (show _ = Value.none from r); exact .none
  | _, _, _, .int i, r => by obtain ⟨t, rfl⟩ := (show ∃ t, _ = Value.int i t from r); exact .int i t
  | _, _, _, .str x, r => by obtain ⟨t, rfl⟩ := (show ∃ t, _ = Value.str x t from r); exact .text x t
  | _, _, _, .tup (a := a) (xs := xs) e q, r => by
    cases (show _ = Value.ref a from r)
    obtain ⟨_, its, rl, o, h1, h2, n, h3⟩ := (show ObjOk P w H h a (.tup xs) from ok a _ e)
    exact .tup h1 h2 h3 (by simpa using NKs.is ok q rl)
theorem NKs.is {P : Program} {w : World} {H : Hp} {h : Heap} (ok : HOk P w H h) : ∀ {ks : List NestedKey} {vs : List V} {us : List Value}, NKs H ks vs → Vals vs us → NestedAll h ks us
  | _, _, _, .nil, .nil => .nil
  | _, _, _, .cons x y, .cons r t => .cons (NK.is ok x r) (NKs.is ok y t)
end
abbrev RowX := NestedKey × V × V
/-- a key as these dicts have it: None or a tuple -/
structure KeyIn (H : Hp) (k : NestedKey) (v : V) : Prop where
  tell : NK H k v
  low : k.depth ≤ 8
  form : v = .non ∨ ∃ a, v = .ref a
theorem KeyIn.at {H H' : Hp} {k : NestedKey} {v : V} (x : KeyIn H k v) (t : ∀ a xs, H a = some (.tup xs) → H' a = some (.tup xs)) : KeyIn H' k v := ⟨x.tell.at t, x.low, x.form⟩
theorem KeyIn.same {H H' : Hp} {k : NestedKey} {v : V} (x : KeyIn H k v) (s : Same H H') : KeyIn H' k v := x.at fun a xs h => s a _ h
theorem KeyIn.is {P : Program} {w : World} {H : Hp} {h : Heap} {k : NestedKey} {v : V} {u : Value} (x : KeyIn H k v) (ok : HOk P w H h) (r : RelV v u) : Dx.KeyAt h k u := by
  refine ⟨x.tell.is ok r, x.low, ?_⟩
  rcases x.form with rfl | ⟨a, rfl⟩
  · exact .inl r
  · exact .inr ⟨a, r⟩
structure RowE (w : World) (r : RowX) (e : DictEntry) : Prop where
  hash : e.hash = r.1.hash w
  key : RelV r.2.1 e.key
  val : RelV r.2.2 e.val
def DX (w : World) (a : Addr) (rows : List RowX) : HO := .ext fun h => (a == sysModules) = false ∧ (rows.map (·.1)).Nodup ∧ ∃ o es ep, h.get? a = some o ∧ o.ExactDict ∧ o.data = .dict es ep ∧ Paired (RowE w) rows es.toList
/-- at a stands a dict with these rows -/
structure DXs (w : World) (H : Hp) (a : Addr) (rows : List RowX) : Prop where
  there : H a = some (DX w a rows)
  keys : ∀ r ∈ rows, KeyIn H r.1 r.2.1
theorem DXs.same {w : World} {H H' : Hp} {a : Addr} {rows : List RowX} (x : DXs w H a rows) (s : Same H H') : DXs w H' a rows := ⟨s a _ x.there, fun r hr => (x.keys r hr).same s⟩
theorem not_tup {w : World} {a : Addr} {rows : List RowX} {xs : List V} : DX w a rows ≠ .tup xs := fun z => by cases z
theorem upd_tups {w : World} {H : Hp} {a : Addr} {rows : List RowX} {o : HO} (h : H a = some (DX w a rows)) : ∀ b xs, H b = some (.tup xs) → upd H a o b = some (.tup xs) := fun b xs e => by
  have n : b ≠ a := fun z => by
    rw [z, h] at e
    exact not_tup (Option.some.inj e)
  rw [upd_ne n]
  exact e
/-- the value at a key -/
def valX (rows : List RowX) (k : NestedKey) : Option V := (Dx.place (rows.map (·.1)) k).bind fun i => rows[i]?.map (·.2.2)
def putX (rows : List RowX) (k : NestedKey) (y v : V) : List RowX := match Dx.place (rows.map (·.1)) k with
  | some i => rows.modify i fun r => (r.1, r.2.1, v)
  | none => rows ++ [(k, y, v)]
theorem valX_none {rows : List RowX} {k : NestedKey} : valX rows k = none ↔ k ∉ rows.map (·.1) := by
  unfold valX
  constructor
  · intro h hm
    cases hp : Dx.place (rows.map (·.1)) k with
    | none => exact Dx.place_none hp hm
    | some i =>
      rw [hp] at h
      have := Dx.place_ok hp
      rw [List.getElem?_map] at this
      cases hr : rows[i]? with
      | none => rw [hr] at this; cases this
      | some r => simp [hr] at h
  · intro h
    rw [Dx.place_no fun i hi => h (List.mem_of_getElem? hi)]
    rfl
theorem valX_isSome {rows : List RowX} {k : NestedKey} : (valX rows k).isSome = decide (k ∈ rows.map (·.1)) := by
  by_cases h : k ∈ rows.map (·.1)
  · rw [decide_eq_true h]
    cases e : valX rows k with
    | none => exact absurd h (valX_none.mp e)
    | some x => rfl
  · rw [decide_eq_false h, valX_none.mpr h]
    rfl
theorem putX_new {rows : List RowX} {k : NestedKey} {y v : V} (h : k ∉ rows.map (·.1)) : putX rows k y v = rows ++ [(k, y, v)] := by
  unfold putX
  rw [Dx.place_no fun i hi => h (List.mem_of_getElem? hi)]
theorem modify_keys {rows : List RowX} {i : Nat} {v : V} : (rows.modify i fun r => (r.1, r.2.1, v)).map (·.1) = rows.map (·.1) := by
  refine List.ext_getElem? fun j => ?_
  rw [List.getElem?_map, List.getElem?_map, List.getElem?_modify]
  cases rows[j]? with
  | none => rfl
  | some r =>
    by_cases c : i = j
    · simp [c]
    · simp [c]
theorem paired_get {α β : Type} {F : α → β → Prop} : ∀ {l : List α} {m : List β} {i : Nat}, Paired F l m → (l[i]? = none ∧ m[i]? = none) ∨ ∃ a b, l[i]? = some a ∧ m[i]? = some b ∧ F a b
  | _, _, _, .nil => .inl ⟨by simp, by simp⟩
  | _, _, 0, .cons h _ => .inr ⟨_, _, rfl, rfl, h⟩
  | _, _, i + 1, .cons _ t => by
    rcases paired_get (i := i) t with ⟨h1, h2⟩ | ⟨a, b, h1, h2, h3⟩
    · exact .inl ⟨by simpa using h1, by simpa using h2⟩
    · exact .inr ⟨a, b, by simpa using h1, by simpa using h2, h3⟩
theorem paired_modify {α β : Type} {F : α → β → Prop} {f : α → α} {g : β → β} (fg : ∀ a b, F a b → F (f a) (g b)) : ∀ {l : List α} {m : List β} (i : Nat), Paired F l m → Paired F (l.modify i f) (m.modify i g)
  | _, _, i, .nil => by cases i <;> exact .nil
  | _, _, 0, .cons h t => .cons (fg _ _ h) t
  | _, _, i + 1, .cons h t => .cons h (paired_modify fg i t)
section
variable {X : Cx} {pins : List (Addr × Obj)} {σ : L2.St} {H : Hp} {s : Shared} {a : Addr} {A : Around} {E : Value → Shared → Prop} {rows : List RowX} {k : NestedKey} {y v : V} {u r : Value} {P : Program} {w : World} {h : Heap}
theorem DXs.ents (D : DXs w H a rows) (ok : HOk P w H h) : (a == sysModules) = false ∧ ∃ es, Dx.DictE w h a es (rows.map (·.1)) ∧ Paired (RowE w) rows es.toList := by
  obtain ⟨⟨hd, nd, o, es, ep, h1, h2, h3, pr⟩, _, _⟩ := (show ObjOk P w H h a (DX w a rows) from ok a _ D.there)
  refine ⟨hd, es, ⟨o, ep, h1, h2, h3, ⟨by rw [List.length_map, Paired.length pr, Array.length_toList], fun i k hi => ?_, nd⟩⟩, pr⟩
  rw [List.getElem?_map] at hi
  rcases paired_get (i := i) pr with ⟨e1, _⟩ | ⟨r, e, e1, e2, e3⟩
  · rw [e1] at hi; cases hi
  · rw [e1] at hi
    cases hi
    exact ⟨e, by simpa using e2, e3.hash, (D.keys r (List.mem_of_getElem? e1)).is ok e3.key⟩
theorem got_rel {es : Array DictEntry} (pr : Paired (RowE w) rows es.toList) (k : NestedKey) : RelO (valX rows k) (Dx.gotE es (rows.map (·.1)) k) := by
  unfold valX Dx.gotE
  cases Dx.place (rows.map (·.1)) k with
  | none => trivial
  | some i =>
    show RelO (rows[i]?.map _) (es[i]?.map _)
    rw [← Array.getElem?_toList]
    rcases paired_get (i := i) pr with ⟨e1, e2⟩ | ⟨r, e, e1, e2, e3⟩
    · rw [e1, e2]; trivial
    · rw [e1, e2]; exact e3.val
theorem put_rel {es : Array DictEntry} (pr : Paired (RowE w) rows es.toList) (ry : RelV y u) (rv : RelV v r) : Paired (RowE w) (putX rows k y v) (Dx.putE w es (rows.map (·.1)) k u r).1.toList ∧ (putX rows k y v).map (·.1) = (Dx.putE w es (rows.map (·.1)) k u r).2 := by
  unfold putX Dx.putE
  cases Dx.place (rows.map (·.1)) k with
  | none =>
    refine ⟨?_, by rw [List.map_append]; rfl⟩
    show Paired _ _ (es.push _).toList
    rw [Array.toList_push]
    exact Paired.snoc pr ⟨rfl, ry, rv⟩
  | some i =>
    refine ⟨?_, modify_keys⟩
    show Paired _ _ (es.modify i _).toList
    rw [Array.toList_modify]
    exact paired_modify (fun x e z => ⟨z.hash, z.key, rv⟩) i pr
theorem putX_keys {x : RowX} (hx : x ∈ putX rows k y v) : x.1 = k ∧ x.2.1 = y ∨ ∃ z ∈ rows, z.1 = x.1 ∧ z.2.1 = x.2.1 := by
  unfold putX at hx
  cases hp : Dx.place (rows.map (·.1)) k with
  | none =>
    rw [hp] at hx
    rcases List.mem_append.mp hx with z | z
    · exact .inr ⟨x, z, rfl, rfl⟩
    · rw [List.mem_singleton.mp z]
      exact .inl ⟨rfl, rfl⟩
  | some i =>
    rw [hp] at hx
    obtain ⟨j, hj⟩ := List.getElem?_of_mem hx
    rw [List.getElem?_modify] at hj
    cases hr : rows[j]? with
    | none => rw [hr] at hj; cases hj
    | some z =>
      rw [hr] at hj
      refine .inr ⟨z, List.mem_of_getElem? hr, ?_⟩
      replace hj : (if i = j then (z.1, z.2.1, v) else z) = x := Option.some.inj hj
      by_cases c : i = j
      · rw [if_pos c] at hj
        rw [← hj]
        exact ⟨rfl, rfl⟩
      · rw [if_neg c] at hj
        rw [← hj]
        exact ⟨rfl, rfl⟩
theorem DXs.put (D : DXs w H a rows) (K : KeyIn H k y) : DXs w (upd H a (DX w a (putX rows k y v))) a (putX rows k y v) :=
  ⟨upd_same, fun x hx => by
    rcases putX_keys hx with ⟨e1, e2⟩ | ⟨z, hz, e1, e2⟩
    · rw [e1, e2]
      exact K.at (upd_tups D.there)
    · rw [← e1, ← e2]
      exact (D.keys z hz).at (upd_tups D.there)⟩
/-- y in d -/
theorem x_in {Q : Value → Shared → Prop} (hu : A.units + 65 < cLine) (I : Inv X pins σ H s) (D : DXs X.w H a rows) (K : KeyIn H k y) (ry : RelV y u) (h : ∀ s', Inv X pins σ H s' → Q (.bool (valX rows k).isSome) s') :
    wpAny (model X.prog X.w) A (compareOp .In u (.ref a)) Q E s := by
  obtain ⟨hd, es, dd, pr⟩ := D.ents I.hok
  refine Dx.has_k (k := k) (by omega) (K.is I.hok ry) hd dd ?_
  rw [← (got_rel pr k).isSome_eq]
  exact h _ (I.tok _)
/-- d[y] -/
theorem x_item {Q : Value → Shared → Prop} (hu : A.units + 65 < cLine) (I : Inv X pins σ H s) (D : DXs X.w H a rows) (K : KeyIn H k y) (ry : RelV y u) (g : valX rows k = some v) (h : ∀ w' s', Inv X pins σ H s' → RelV v w' → Q w' s') :
    wpAny (model X.prog X.w) A (getItem (.ref a) u) Q E s := by
  obtain ⟨hd, es, dd, pr⟩ := D.ents I.hok
  have q := got_rel pr k
  rw [g] at q
  obtain ⟨x, hx, rx⟩ := RelO.some_of q
  exact Dx.item_k (k := k) (by omega) (K.is I.hok ry) dd hx (h x _ (I.tok _) rx)
theorem x_new {es : Array DictEntry} {h' : Heap} (hd : (a == sysModules) = false) (pr : Paired (RowE w) rows es.toList) (dd : Dx.DictE w h' a es (rows.map (·.1))) : ObjOk P w H h' a (DX w a rows) := by
  obtain ⟨o, ep, h1, h2, h3, hE⟩ := dd
  exact ⟨⟨hd, hE.once, o, es, ep, h1, h2, h3, pr⟩, ⟨o, h1⟩, fun _ _ ⟨p1, p2, o, es, ep, q1, q2, q3, q4⟩ st => ⟨p1, p2, o, es, ep, st _ q1, q2, q3, q4⟩⟩
/-- d[y] = v -/
theorem x_setItem {Q : Unit → Shared → Prop} (hu : A.units + 65 < cLine) (I : Inv X pins σ H s) (D : DXs X.w H a rows) (K : KeyIn H k y) (hz : rows.length ≤ sizeLine) (ry : RelV y u) (rv : RelV v r) (h : ∀ s', Inv X pins σ (upd H a (DX X.w a (putX rows k y v))) s' → Q () s') :
    wpAny (model X.prog X.w) A (setItem (.ref a) u r) Q E s := by
  obtain ⟨hd, es, dd, pr⟩ := D.ents I.hok
  refine Dx.put_k (k := k) (by omega) (K.is I.hok ry) dd (by rw [← Array.length_toList, ← Paired.length pr]; exact hz) fun h' dd' sb => h _ ?_
  obtain ⟨p1, p2⟩ := put_rel (k := k) pr ry rv
  refine d_write I (by rw [D.there]; exact True.intro) sb (let ⟨o, _, h1, _⟩ := dd'; ⟨o, h1⟩) (x_new hd p1 ?_)
  rw [p2]
  exact dd'
theorem x_store {Q : Unit → Shared → Prop} (hu : A.units + 65 < cLine) (I : Inv X pins σ H s) (D : DXs X.w H a rows) (K : KeyIn H k y) (hz : rows.length ≤ sizeLine) (ry : RelV y u) (rv : RelV v r) (h : ∀ s', Inv X pins σ (upd H a (DX X.w a (putX rows k y v))) s' → Q () s') :
    wpAny (model X.prog X.w) A (dictSet a u r) Q E s := by
  obtain ⟨hd, es, dd, pr⟩ := D.ents I.hok
  refine Dx.store (k := k) (by omega) (K.is I.hok ry) dd (by rw [← Array.length_toList, ← Paired.length pr]; exact hz) fun h' dd' sb => h _ ?_
  obtain ⟨p1, p2⟩ := put_rel (k := k) pr ry rv
  refine d_write I (by rw [D.there]; exact True.intro) sb (let ⟨o, _, h1, _⟩ := dd'; ⟨o, h1⟩) (x_new hd p1 ?_)
  rw [p2]
  exact dd'
theorem x_typeIs (I : Inv X pins σ H s) (D : DXs X.w H a rows) : s.TypeIs (.ref a) "dict" := by
  obtain ⟨_, es, dd, _⟩ := D.ents I.hok
  exact dd.isDict
theorem x_empty (h : Heap) (hb : sysModules < h.objs.size) : ObjOk P w H (h.push { cls := .type "dict", data := .dict #[] }) h.objs.size (DX w h.objs.size []) :=
  ⟨⟨beq_eq_false_iff_ne.mpr (Ne.symm (Nat.ne_of_lt hb)), List.nodup_nil, _, #[], 0, Heap.get?_push_size _ rfl, ⟨rfl, rfl, rfl⟩, rfl, .nil⟩, ⟨_, Heap.get?_push_size _ rfl⟩, fun _ _ ⟨p1, p2, o, es, ep, q1, q2, q3, q4⟩ st => ⟨p1, p2, o, es, ep, st _ q1, q2, q3, q4⟩⟩
end
/-! readings and rules -/
def rInX (w : World) : V → V → Hp → VK → Prop := fun y x H Q => ∃ (a : Addr) (rows : List RowX) (k : NestedKey), x = .ref a ∧ DXs w H a rows ∧ KeyIn H k y ∧ Q (.bl (valX rows k).isSome) H
def tDGetX (w : World) (td ty : TE) : TE := fun σ H Q => td σ H fun x H1 => ty σ H1 fun y H2 => ∃ (a : Addr) (rows : List RowX) (k : NestedKey) (v : V), x = .ref a ∧ DXs w H2 a rows ∧ KeyIn H2 k y ∧ valX rows k = some v ∧ Q v H2
def sDPutX (w : World) (td ty tv : TE) : TS := fun D σ H => tv σ H fun v H1 => td σ H1 fun x H2 => ty σ H2 fun y H3 => ∃ (a : Addr) (rows : List RowX) (k : NestedKey), x = .ref a ∧ DXs w H3 a rows ∧ KeyIn H3 k y ∧ rows.length ≤ sizeLine ∧ D.nx σ (upd H3 a (DX w a (putX rows k y v)))
def tDNewX (w : World) : TE := fun _ H Q => ∀ p, H p = none → Q (.ref p) (upd H p (DX w p []))
/-- {y: v} -/
def tDOneX (w : World) (ty tv : TE) : TE := fun σ H Q => ∀ p, H p = none → ty σ (upd H p (DX w p [])) fun y H1 => tv σ H1 fun v H2 => H2 p = some (DX w p []) ∧ ∃ k : NestedKey, KeyIn H2 k y ∧ Q (.ref p) (upd H2 p (DX w p [(k, y, v)]))
section
variable {X : Cx} {o i e value : Expr} {pos pos' tpos : Pos} {td ty tv : TE} {w : World}
theorem op_inX (hw : X.w = w) (hu : X.A.units + 65 < cLine) : OpR X (compareOp .In) (rInX w) := by
  subst hw
  rintro pins s σ H y x u r Q I ry rx ⟨a, rows, k, rfl, D, K, q⟩
  cases (show r = Value.ref a from rx)
  exact x_in hu I D K ry fun s' I' => ⟨.bl (valX rows k).isSome, H, I', rfl, q⟩
theorem pe_dgetX (hw : X.w = w) (hu : X.A.units + 65 < cLine) (ho : PE X o td) (hi : PE X i ty) (hs : NoSl i) : PE X (.Subscript o i pos) (tDGetX w td ty) := by
  subst hw
  refine ⟨fun pins s σ H Q I h => ?_⟩
  refine subD_of PySem.F.slot_dict_getitem.lookup hs (thn (ho.run pins s σ H _ I h) fun u s1 ⟨x, H1, I1, rx, q1⟩ => thn (hi.run pins s1 σ H1 _ I1 q1) fun iv s2 ⟨y, H2, I2, ry, a, rows, k, v, ex, D, K, g, q2⟩ => ?_)
  subst ex
  obtain rfl : u = Value.ref a := rx
  exact ⟨x_typeIs I2 D, x_item hu I2 D K ry g fun w' s3 I3 rw' => ⟨v, H2, I3, rw', q2⟩⟩
theorem ps_dputX (hw : X.w = w) (hu : X.A.units + 65 < cLine) (ho : PE X o td) (hi : PE X i ty) (hv : PE X value tv) (hs : swapsWith value (some (.Subscript o i pos')) pos.line X.env = pure false) :
    PS X (.Assign [.Subscript o i pos'] value pos) (sDPutX w td ty tv) := by
  subst hw
  refine ⟨fun pins s σ H D I h => ?_⟩
  refine wpAny_Assign_Subscript (thn (hv.run pins s σ H _ I h) fun r s1 ⟨v, H1, I1, rv, q1⟩ => thn (ho.run pins s1 σ H1 _ I1 q1) fun u s2 ⟨x, H2, I2, rx, q2⟩ => thn (hi.run pins s2 σ H2 _ I2 q2) fun iv s3 ⟨y, H3, I3, ry, a, rows, k, ex, g, K, hz, q3⟩ => ?_) hs
  subst ex
  obtain rfl : u = Value.ref a := rx
  exact x_setItem hu I3 g K hz ry rv fun s4 I4 => ⟨σ, _, I4, q3⟩
theorem pe_dnewX (hw : X.w = w) : PE X (.Dict [] [] pos) (tDNewX w) := by
  subst hw
  exact ⟨fun pins s σ H Q I h => wpAny_Dict_empty ⟨.ref s.heap.objs.size, _, I.laid (a := s.heap.objs.size) (o := DX X.w s.heap.objs.size []) (t' := s.toks) (fun _ _ q => Heap.get?_push_of_some _ q) (Nat.le_refl _) (x_empty s.heap I.big), rfl, h _ (I.hok.fresh (Nat.le_refl _))⟩⟩
theorem pe_doneX (hw : X.w = w) (hu : X.A.units + 65 < cLine) (hk : PE X i ty) (hv : PE X value tv) : PE X (.Dict [some i] [value] pos) (tDOneX w ty tv) := by
  subst hw
  refine ⟨fun pins s σ H Q I q => ?_⟩
  have hn := I.hok.fresh (Nat.le_refl s.heap.objs.size)
  have I1 := I.laid (a := s.heap.objs.size) (o := DX X.w s.heap.objs.size []) (h' := s.heap.push { cls := .type "dict", data := .dict #[] }) (t' := s.toks) (fun _ _ q => Heap.get?_push_of_some _ q) (Nat.le_refl _) (x_empty s.heap I.big)
  refine wpAny_Dict_any rfl rfl (fun z => by cases z) (show 1 ≤ 15 by decide) (pairTrees_cons_walk (thn (hk.run pins _ σ _ _ I1 (q _ hn)) fun u s1 ⟨y, H1, I1, ry, q1⟩ => thn (hv.run pins s1 σ H1 _ I1 q1) fun r s2 ⟨v, H2, I2, rv, e, k, K, q2⟩ => pairTrees_nil_walk ?_))
  unfold storeAll
  rw [List.forIn_cons]
  refine wpAny_bind (wpAny_bind (x_store hu I2 ⟨e, fun r hr => by cases hr⟩ K (Nat.zero_le _) ry rv fun s3 I3 => wpAny_pure ?_))
  show wpAny _ _ (forIn [] PUnit.unit _) _ _ _
  rw [List.forIn_nil]
  exact wpAny_pure ⟨.ref s.heap.objs.size, _, I3, rfl, q2⟩
end
end UP

set_option Elab.async false
set_option linter.all false
set_option maxRecDepth 100000
set_option maxHeartbeats 4000000
set_option pp.maxSteps 500
namespace UP
open PySem PySem.Spec PyProof.Rows L2
/-! ### the growth of a sequence -/
def cntK (rs : List Run) (k : Str) : Int := ((rs.filter fun r => decide (r.1 = k)).map (·.2)).sum
def majK (rs : List Run) (k : Str) : Bool := decide (lenR rs < 2 * cntK rs k)
def grR (rs : List Run) : Option Run := ((rs.map (·.1)).find? (majK rs)).map fun k => (k, 2 * cntK rs k - lenR rs)
theorem cntK_cons (r : Run) (l : List Run) (k : Str) : cntK (r :: l) k = (if r.1 = k then r.2 else 0) + cntK l k := by
  unfold cntK
  rw [List.filter_cons]
  by_cases c : r.1 = k
  · rw [if_pos (decide_eq_true c), if_pos c]
    rfl
  · rw [if_neg (by rw [decide_eq_false c]; decide), if_neg c]
    omega
theorem cntK_it : ∀ {rs : List Run} (k : Str), (∀ r ∈ rs, 1 ≤ r.2) → cntK rs k = (((itR rs).count k : Nat) : Int)
  | [], k, _ => rfl
  | r :: l, k, h => by
    have h1 := h r (List.mem_cons_self ..)
    rw [cntK_cons, cntK_it k fun x hx => h x (List.mem_cons_of_mem _ hx)]
    show _ = (((List.replicate r.2.toNat r.1 ++ itR l).count k : Nat) : Int)
    rw [List.count_append, List.count_replicate]
    by_cases c : r.1 = k
    · rw [if_pos c, if_pos (by rw [c]; exact beq_self_eq_true k)]
      omega
    · rw [if_neg c, if_neg (fun z => c (eq_of_beq z))]
      omega
theorem cntK_pos : ∀ {rs : List Run} {k : Str}, (∀ r ∈ rs, 1 ≤ r.2) → 0 ≤ cntK rs k
  | [], k, _ => Int.le_refl _
  | r :: l, k, h => by
    have h1 := h r (List.mem_cons_self ..)
    have h2 := cntK_pos (rs := l) (k := k) fun x hx => h x (List.mem_cons_of_mem _ hx)
    rw [cntK_cons]
    split <;> omega
theorem cntK_two : ∀ {rs : List Run} {k j : Str}, k ≠ j → (∀ r ∈ rs, 1 ≤ r.2) → cntK rs k + cntK rs j ≤ lenR rs
  | [], k, j, _, _ => Int.le_refl _
  | r :: l, k, j, n, h => by
    have h1 := h r (List.mem_cons_self ..)
    have h2 := cntK_two (rs := l) n fun x hx => h x (List.mem_cons_of_mem _ hx)
    rw [cntK_cons, cntK_cons, lenR_cons]
    by_cases c : r.1 = k
    · rw [if_pos c, if_neg (fun z => n (c.symm.trans z))]
      omega
    · rw [if_neg c]
      split <;> omega
theorem cntK_le {rs : List Run} {k : Str} (h : ∀ r ∈ rs, 1 ≤ r.2) : cntK rs k ≤ lenR rs := by
  induction rs with
  | nil => exact Int.le_refl _
  | cons r l ih =>
    have h1 := h r (List.mem_cons_self ..)
    have h2 := ih fun x hx => h x (List.mem_cons_of_mem _ hx)
    rw [cntK_cons, lenR_cons]
    split <;> omega
theorem kinds_it : ∀ {rs : List Run} {k : Str}, (∀ r ∈ rs, 1 ≤ r.2) → (k ∈ itR rs ↔ k ∈ rs.map (·.1))
  | [], k, _ => Iff.rfl
  | r :: l, k, h => by
    have h1 := h r (List.mem_cons_self ..)
    have h2 := kinds_it (rs := l) (k := k) fun x hx => h x (List.mem_cons_of_mem _ hx)
    show k ∈ List.replicate r.2.toNat r.1 ++ itR l ↔ k ∈ r.1 :: l.map (·.1)
    rw [List.mem_append, List.mem_replicate, h2, List.mem_cons]
    exact ⟨fun z => z.elim (fun z => .inl z.2) .inr, fun z => z.elim (fun z => .inl ⟨by omega, z⟩) .inr⟩
theorem gr_some {rs : List Run} {k : Str} (h : ∀ r ∈ rs, 1 ≤ r.2) (hk : k ∈ rs.map (·.1)) (m : lenR rs < 2 * cntK rs k) : grR rs = some (k, 2 * cntK rs k - lenR rs) := by
  unfold grR
  cases e : (rs.map (·.1)).find? (majK rs) with
  | none => exact absurd (decide_eq_true m) (by simpa [majK] using List.find?_eq_none.mp e k hk)
  | some j =>
    have mj := List.find?_some e
    have mj : lenR rs < 2 * cntK rs j := of_decide_eq_true mj
    have ej : j = k := by
      refine Classical.byContradiction fun n => ?_
      have := cntK_two (rs := rs) n h
      omega
    rw [ej]
    rfl
theorem gr_none {rs : List Run} (h : ∀ k ∈ rs.map (·.1), ¬ lenR rs < 2 * cntK rs k) : grR rs = none := by
  unfold grR
  rw [List.find?_eq_none.mpr fun k hk => by simpa [majK] using h k hk]
  rfl
theorem gr_is {rs : List Run} {g : Run} (h : grR rs = some g) : g.1 ∈ rs.map (·.1) ∧ g.2 = 2 * cntK rs g.1 - lenR rs ∧ 1 ≤ g.2 := by
  unfold grR at h
  cases e : (rs.map (·.1)).find? (majK rs) with
  | none => rw [e] at h; cases h
  | some j =>
    rw [e] at h
    cases h
    have mj := List.find?_some e
    have mj : lenR rs < 2 * cntK rs j := of_decide_eq_true mj
    exact ⟨List.mem_of_find?_eq_some e, rfl, by show 1 ≤ 2 * cntK rs j - lenR rs; omega⟩
theorem mul2 {x : Int} (h0 : 0 ≤ x) (h : x ≤ 400) : CMulW 2 x := wide_mul (a := 2) (b := 10) (by decide) (by omega) (by decide) (by decide) (by decide)
def fallR (rs : List Run) (k : Str) : Int := lenR rs - 2 * cntK rs k
def frR (rs : List Run) : Option Run → Int
  | none => 0
  | some r => if r.2 < lenR rs ∨ fallR rs r.1 ≤ 0 then 0 else (r.2 - lenR rs) / fallR rs r.1 + 1
def fnR (rs : List Run) (st : Option Run) (n : Int) : Option Run := if n = 0 then st else match st with
  | none => none
  | some r => withR r.1 (r.2 - n * fallR rs r.1)
def gfB (rs : List Run) (g st : Option Run) : Bool := match g, st with
  | some g, some r => decide (r.1 = g.1) && decide (lenR rs ≤ r.2)
  | _, _ => false
section
variable {P : Program} {w : World} {K : PySem.W.Frag} {mg : Str → Option Value} {base : Heap}
/-! growth_in: slots 0:runs 1:length 2:kind 3:count -/
abbrev s_growth_in : Stmt := topS 41
theorem sc_growth_in : FnScope ["runs", "length", "kind", "count"] ["runs"] (defScope s_growth_in) := ⟨rfl, rfl, rfl, by decide +kernel, rfl, by decide +kernel, by decide +kernel⟩
def sp_growth_in : Sp := fun vs H Q _ => ∃ (a : Addr) (rs : List Run), vs = [.ref a] ∧ Runs H a rs ∧ SeqOk rs ∧ lenR rs ≤ 400 ∧ ∀ H' v', Same H H' → StV H' v' (grR rs) → Q v' H'
theorem ok_growth_in (D : Df K mg "growth_in" s_growth_in) (G_length_of : Has P w K mg base 1 "length_of" ["runs"] sp_length_of) (G_counts_of : Has P w K mg base 6 "counts_of" ["sequence"] sp_counts_of) : Has P w K mg base 7 "growth_in" ["runs"] sp_growth_in := by
  refine has_of D sc_growth_in (fun _ _ _ _ _ _ us hl => match us, hl with | [_], _ => rfl) (fun vs H Q E h => ?_) (fun f cdv A outer s₀ H vs Q E hr h => ?_)
  · obtain ⟨_, _, rfl, _⟩ := h
    rfl
  · obtain ⟨a, rs, rfl, hR, ok, l400, q⟩ := h
    have l4 := ok.1
    have pos : ∀ r ∈ rs, 1 ≤ r.2 := fun r hr => (ok.2.1 r hr).2.1
    refine ⟨_, (pss_cons (ps_set (i := 1) sc_growth_in.nd rfl (by first | exact Or.inl rfl | exact Or.inr rfl) (pe_callH G_length_of (hr.mono (by omega)) (by rfl) (pa_cons (pv 0) pa_nil)))
    (pss_cons (ps_for PassesOwn.never rfl (pi_list (pe_callH G_counts_of (hr.mono (by omega)) (by rfl) (pa_cons (pv 0) pa_nil))) (pg_tup rfl (pgs_cons (pg_name (i := 2) sc_growth_in.nd rfl (by first | exact Or.inl rfl | exact Or.inr rfl)) (pgs_cons (pg_name (i := 3) sc_growth_in.nd rfl (by first | exact Or.inl rfl | exact Or.inr rfl)) pgs_nil)))
      (pss_one (ps_if (pt_cmpR op_gt (pe_op op_mulW pe_int (pv 3)) (pv 1) (nomark _)) (pss_one (ps_ret (pe_tup (pa_cons (pv 2) (pa_cons (pe_op op_sub (pe_op op_mulW pe_int (pv 3)) (pv 1)) pa_nil))))) pss_nil)))
    (pss_one (ps_ret pe_non)))), ?_⟩
    refine ⟨_, rfl, a, rs, rfl, hR, by omega, fun H1 s1 => ?_⟩
    refine ⟨_, rfl, .ref a, rs, rfl, (hR.same s1).dress, ok, fun H2 p out s2 n2 hp ct so lo => ?_⟩
    obtain ⟨xs, hx, hpr⟩ := hp
    have sA := s1.trans s2
    have val : ∀ e ∈ out, e.2 = cntK rs e.1 := fun e he => by rw [cntK_it e.1 pos]; exact ct.val e he
    have cb : ∀ r ∈ out, 0 ≤ r.2 ∧ r.2 ≤ 400 := fun r hr => by
      rw [val r hr]
      have h1 := cntK_pos (k := r.1) pos
      have h2 := cntK_le (k := r.1) pos
      omega
    refine ⟨p, rfl, ⟨xs, .of hx⟩, for_list (K := K) (a := p) (xs := xs) (fun i σ H' => ∃ y2 y3, σ = [some (.ref a), some (.int (lenR rs)), y2, y3] ∧ Same H2 H' ∧ ∀ (j : Nat) (e : Run), j < i → out[j]? = some e → ¬ lenR rs < 2 * e.2) ⟨none, none, rfl, Same.refl _, fun j e hj => absurd hj (Nat.not_lt_zero _)⟩ (fun i σ H' _ hP => ?_) (fun i x σ H3 ex hP => ?_) (fun σ H3 hP => ?_)⟩
    · obtain ⟨_, _, _, sm, _⟩ := hP
      exact .of (sm _ _ hx)
    · obtain ⟨y2, y3, rfl, sm, no⟩ := hP
      obtain ⟨r, er, hr1⟩ := Paired.at hpr ex
      obtain ⟨t, rfl, ht⟩ := RunV.same sm hr1
      have hm := List.mem_of_getElem? er
      refine ⟨t, _, rfl, .of ht, rfl, _, _, rfl, _, _, rfl, rfl, ?_⟩
      refine ⟨_, rfl, _, _, rfl, rfl, mul2 (cb _ hm).1 (cb _ hm).2, _, rfl, _, _, rfl, rfl, _, rfl, ?_⟩
      by_cases c : lenR rs < 2 * r.2
      · refine iteP (decide_eq_true c) ?_
        refine ⟨_, rfl, _, rfl, _, _, rfl, rfl, mul2 (cb _ hm).1 (cb _ hm).2, _, rfl, _, _, rfl, rfl, (by show 2 ≤ sizeLine; decide), fun n nn => ?_⟩
        have hk : r.1 ∈ rs.map (·.1) := (kinds_it pos).mp ((ct.cov r.1).mpr (List.mem_map.mpr ⟨r, hm, rfl⟩))
        rw [val r hm] at c
        have q := fun o => q (upd H3 n o) (.ref n) ((sA.trans sm).trans (same_upd nn))
        simp only [gr_some pos hk c] at q
        rw [val r hm]
        exact q _ ⟨n, rfl, upd_same⟩
      · refine iteN (decide_eq_false c) ⟨_, _, rfl, sm, fun j e hj ee => ?_⟩
        by_cases z : j = i
        · rw [z, er] at ee
          cases ee
          exact c
        · exact no j e (by omega) ee
    · obtain ⟨y2, y3, rfl, sm, no⟩ := hP
      have lx : xs.length = out.length := Paired.len hpr
      have e0 : grR rs = none := gr_none fun k hk => by
        obtain ⟨e, he, ee⟩ := List.mem_map.mp ((ct.cov k).mp ((kinds_it pos).mpr hk))
        obtain ⟨j, hj⟩ := List.getElem?_of_mem he
        have := no j e (by rw [lx]; exact (List.getElem?_eq_some_iff.mp hj).1) hj
        rw [val e he, ee] at this
        exact this
      have q := q _ .non (sA.trans sm)
      rw [e0] at q
      exact q rfl
/-! fall_of: slots 0:runs 1:kind 2:each 3:count -/
abbrev s_fall_of : Stmt := topS 42
theorem sc_fall_of : FnScope ["runs", "kind", "each", "count"] ["runs", "kind"] (defScope s_fall_of) := ⟨rfl, rfl, rfl, by decide +kernel, rfl, by decide +kernel, by decide +kernel⟩
def sp_fall_of : Sp := fun vs H Q _ => ∃ (a : Addr) (rs : List Run) (k : Str), vs = [.ref a, .str k] ∧ Runs H a rs ∧ SeqOk rs ∧ lenR rs ≤ 400 ∧ ∀ H', Same H H' → Q (.int (fallR rs k)) H'
theorem ok_fall_of (D : Df K mg "fall_of" s_fall_of) (T : Tx mg) (G_length_of : Has P w K mg base 1 "length_of" ["runs"] sp_length_of) : Has P w K mg base 2 "fall_of" ["runs", "kind"] sp_fall_of := by
  refine has_of D sc_fall_of (fun _ _ _ _ _ _ us hl => match us, hl with | [_, _], _ => rfl) (fun vs H Q E h => ?_) (fun f cdv A outer s₀ H vs Q E hr h => ?_)
  · obtain ⟨_, _, _, rfl, _⟩ := h
    rfl
  · obtain ⟨a, rs, k, rfl, hR, ok, l400, q⟩ := h
    have l4 := ok.1
    have pos : ∀ r ∈ rs, 1 ≤ r.2 := fun r hr => (ok.2.1 r hr).2.1
    refine ⟨_, (pss_one (ps_ret (pe_op op_sub (pe_callH G_length_of (hr.mono (by omega)) (by rfl) (pa_cons (pv 0) pa_nil)) (pe_op op_mulW pe_int (pe_callB (cr_sum rfl) (by rfl) T.n_sum (by decide +kernel) (pa_cons (pe_lc (own := [("each", 2), ("count", 3)]) rfl sc_fall_of.nd (pi_list (pv 0)) (blkOk_by (N := ["runs", "kind", "each", "count"]) (sc := defScope s_fall_of) (by decide +kernel)) (fun _ _ _ _ _ => (pg_tupK (K := K) (n := 2) rfl rfl (pgs_cons (pg_name (i := 2) sc_fall_of.nd rfl (by first | exact Or.inl rfl | exact Or.inr rfl)) (pgs_cons (pg_name (i := 3) sc_fall_of.nd rfl (by first | exact Or.inl rfl | exact Or.inr rfl)) pgs_nil)))) (fun _ _ _ _ _ => pts_one (pt_cmpR op_eq (pv 2) (pv 1) (nomark _))) (fun _ _ _ _ _ => (pv 3))) pa_nil)))))), ?_⟩
    refine ⟨_, rfl, a, rs, rfl, hR, by omega, fun H1 s1 => ?_⟩
    obtain ⟨xs, hx, hp⟩ := hR.same s1
    have lx : xs.length = rs.length := Paired.len hp
    refine ⟨_, rfl, a, rfl, ⟨xs, .of hx⟩, fun L nL => lc_list (K := K) (a := a) (xs := xs) (fun i H' => Same H1 H' ∧ H' L = some (.lst ((((rs.take i).filter fun r => decide (r.1 = k)).map (·.2)).map V.int))) ⟨same_upd nL, upd_same⟩ (fun i H' _ p => .of (p.1 _ _ hx)) (fun i x H2 ex p => ?_) (fun H2 p => ?_)⟩
    · obtain ⟨sm, hL⟩ := p
      obtain ⟨r, er, hr1⟩ := Paired.at hp ex
      have hi : i < xs.length := (List.getElem?_eq_some_iff.mp ex).1
      obtain ⟨t, rfl, ht⟩ := RunV.same sm hr1
      have ln := List.length_filter_le (fun r : Run => decide (r.1 = k)) (rs.take i)
      rw [List.length_take] at ln
      refine ⟨t, _, rfl, .of ht, rfl, _, _, rfl, _, _, rfl, rfl, rfl, _, rfl, _, rfl, rfl, _, rfl, ite2 (fun e => ?_) (fun e => ?_)⟩
      · have e : r.1 = k := V.str.inj (of_decide_eq_true e)
        refine ⟨_, rfl, _, hL, ?_, same_grow nL sm, ?_⟩
        · rw [List.length_map, List.length_map]
          exact small (by omega)
        · rw [upd_same, take_snoc er, List.filter_append, List.filter_cons, if_pos (decide_eq_true e), List.map_append, List.map_append]
          rfl
      · have e : ¬ r.1 = k := fun z => e (decide_eq_true (by rw [z]))
        refine ⟨sm, ?_⟩
        rw [take_snoc er, List.filter_append, List.filter_cons, if_neg (by rw [decide_eq_false e]; decide), List.filter_nil, List.append_nil]
        exact hL
    · have e0 := p.2
      rw [lx, List.take_length] at e0
      have c1 := cntK_pos (k := k) pos
      have c2 := cntK_le (k := k) pos
      exact ⟨L, _, rfl, .of e0, _, _, rfl, rfl, mul2 (x := cntK rs k) c1 (by omega), _, _, rfl, rfl, q H2 (s1.trans p.1)⟩
end
end UP

set_option Elab.async false
set_option linter.all false
set_option maxRecDepth 100000
set_option maxHeartbeats 4000000
set_option pp.maxSteps 500
namespace UP
open PySem PySem.Spec PyProof.Rows L2
/-- a state whose number may be multiplied -/
def StW (st : Option Run) : Prop := ∀ r, st = some r → 1 ≤ r.2 ∧ r.2.natAbs < 2 ^ 400000
section
variable {P : Program} {w : World} {K : PySem.W.Frag} {mg : Str → Option Value} {base : Heap}
/-! falling_rounds: slots 0:runs 1:state -/
abbrev s_falling_rounds : Stmt := topS 43
theorem sc_falling_rounds : FnScope ["runs", "state"] ["runs", "state"] (defScope s_falling_rounds) := ⟨rfl, rfl, rfl, by decide +kernel, rfl, by decide +kernel, by decide +kernel⟩
def sp_falling_rounds : Sp := fun vs H Q _ => ∃ (a : Addr) (rs : List Run) (v : V) (st : Option Run), vs = [.ref a, v] ∧ Runs H a rs ∧ SeqOk rs ∧ lenR rs ≤ 400 ∧ StV H v st ∧ ∀ H', Same H H' → Q (.int (frR rs st)) H'
theorem ok_falling_rounds (D : Df K mg "falling_rounds" s_falling_rounds) (G_length_of : Has P w K mg base 1 "length_of" ["runs"] sp_length_of) (G_fall_of : Has P w K mg base 2 "fall_of" ["runs", "kind"] sp_fall_of) : Has P w K mg base 3 "falling_rounds" ["runs", "state"] sp_falling_rounds := by
  refine has_of D sc_falling_rounds (fun _ _ _ _ _ _ us hl => match us, hl with | [_, _], _ => rfl) (fun vs H Q E h => ?_) (fun f cdv A outer s₀ H vs Q E hr h => ?_)
  · obtain ⟨_, _, _, _, rfl, _⟩ := h
    rfl
  · obtain ⟨a, rs, v, st, rfl, hR, ok, l400, hv, q⟩ := h
    have l4 := ok.1
    have pos : ∀ r ∈ rs, 1 ≤ r.2 := fun r hr => (ok.2.1 r hr).2.1
    refine ⟨_, (pss_cons (ps_if (PW.pt (pw_or (pt_cmpR op_isN (pv 1) pe_non (nomark _)) (pw_or (pt_cmpR op_lt (pe_ix ix_tup (pv 1) pe_int (fun _ _ => rfl)) (pe_callH G_length_of (hr.mono (by omega)) (by rfl) (pa_cons (pv 0) pa_nil)) (nomark _)) (pw_or1 (pt_cmpR op_le (pe_callH G_fall_of (hr.mono (by omega)) (by rfl) (pa_cons (pv 0) (pa_cons (pe_ix ix_tup (pv 1) pe_int (fun _ _ => rfl)) pa_nil))) pe_int (nomark _)))))) (pss_one (ps_ret pe_int)) pss_nil)
    (pss_one (ps_ret (pe_op op_add (pe_op op_fdivW (pe_op op_sub (pe_ix ix_tup (pv 1) pe_int (fun _ _ => rfl)) (pe_callH G_length_of (hr.mono (by omega)) (by rfl) (pa_cons (pv 0) pa_nil))) (pe_callH G_fall_of (hr.mono (by omega)) (by rfl) (pa_cons (pv 0) (pa_cons (pe_ix ix_tup (pv 1) pe_int (fun _ _ => rfl)) pa_nil)))) pe_int)))), ?_⟩
    cases st with
    | none =>
      cases hv
      exact ⟨_, rfl, rfl, _, rfl, iteP rfl (iteP rfl (q _ (Same.refl _)))⟩
    | some r =>
      obtain ⟨t, rfl, ht⟩ := hv
      refine ⟨_, rfl, rfl, _, rfl, iteN rfl ?_⟩
      refine ⟨_, rfl, t, _, 1, _, rfl, rfl, .of ht, at1, _, rfl, a, rs, rfl, hR, by omega, fun H1 s1 => ⟨_, _, rfl, rfl, _, rfl, ?_⟩⟩
      by_cases c1 : r.2 < lenR rs
      · rw [show frR rs (some r) = 0 from if_pos (.inl c1)] at q
        exact iteP (decide_eq_true c1) (iteP rfl (q _ s1))
      · refine iteN (decide_eq_false c1) ?_
        refine ⟨_, rfl, _, rfl, t, _, 0, _, rfl, rfl, .of (s1 _ _ ht), at0, a, rs, r.1, rfl, hR.same s1, ok, l400, fun H2 s2 => ⟨_, _, rfl, rfl, _, rfl, ?_⟩⟩
        by_cases c2 : fallR rs r.1 ≤ 0
        · rw [show frR rs (some r) = 0 from if_pos (.inr c2)] at q
          exact iteP (decide_eq_true c2) (q _ (s1.trans s2))
        · rw [show frR rs (some r) = (r.2 - lenR rs) / fallR rs r.1 + 1 from if_neg (fun z => z.elim c1 c2)] at q
          refine iteN (decide_eq_false c2) ?_
          have s12 := s1.trans s2
          have fb : (fallR rs r.1).natAbs < 2 ^ 10 := by
            have c3 := cntK_pos (k := r.1) pos
            have e : fallR rs r.1 = lenR rs - 2 * cntK rs r.1 := rfl
            omega
          refine ⟨_, rfl, t, _, 1, _, rfl, rfl, .of (s12 _ _ ht), at1, _, rfl, a, rs, rfl, hR.same s12, by omega, fun H3 s3 => ⟨_, _, rfl, rfl, ?_⟩⟩
          have s13 := s12.trans s3
          refine ⟨_, rfl, _, rfl, t, _, 0, _, rfl, rfl, .of (s13 _ _ ht), at0, a, rs, r.1, rfl, hR.same s13, ok, l400, fun H4 s4 => ⟨_, _, rfl, rfl, wide_div (b := 10) (by omega) fb (by decide) (by decide), _, _, rfl, rfl, q _ (s13.trans s4)⟩⟩
/-! fallen: slots 0:runs 1:state 2:rounds -/
abbrev s_fallen : Stmt := topS 44
theorem sc_fallen : FnScope ["runs", "state", "rounds"] ["runs", "state", "rounds"] (defScope s_fallen) := ⟨rfl, rfl, rfl, by decide +kernel, rfl, by decide +kernel, by decide +kernel⟩
def sp_fallen : Sp := fun vs H Q _ => ∃ (a : Addr) (rs : List Run) (v : V) (st : Option Run) (n : Int), vs = [.ref a, v, .int n] ∧ Runs H a rs ∧ SeqOk rs ∧ lenR rs ≤ 400 ∧ StV H v st ∧ (n ≠ 0 → st ≠ none) ∧ n.natAbs < 2 ^ 500000 ∧ ∀ H' v', Same H H' → StV H' v' (fnR rs st n) → Q v' H'
theorem ok_fallen (D : Df K mg "fallen" s_fallen) (G_state_with : Has P w K mg base 1 "state_with" ["kind", "number"] sp_state_with) (G_fall_of : Has P w K mg base 2 "fall_of" ["runs", "kind"] sp_fall_of) : Has P w K mg base 3 "fallen" ["runs", "state", "rounds"] sp_fallen := by
  refine has_of D sc_fallen (fun _ _ _ _ _ _ us hl => match us, hl with | [_, _, _], _ => rfl) (fun vs H Q E h => ?_) (fun f cdv A outer s₀ H vs Q E hr h => ?_)
  · obtain ⟨_, _, _, _, _, rfl, _⟩ := h
    rfl
  · obtain ⟨a, rs, v, st, n, rfl, hR, ok, l400, hv, ne, nb, q⟩ := h
    have l4 := ok.1
    have pos : ∀ r ∈ rs, 1 ≤ r.2 := fun r hr => (ok.2.1 r hr).2.1
    refine ⟨_, (pss_cons (ps_if (pt_cmpR op_eq (pv 2) pe_int (nomark _)) (pss_one (ps_ret (pv 1))) pss_nil)
    (pss_one (ps_ret (pe_callH G_state_with (hr.mono (by omega)) (by rfl) (pa_cons (pe_ix ix_tup (pv 1) pe_int (fun _ _ => rfl)) (pa_cons (pe_op op_sub (pe_ix ix_tup (pv 1) pe_int (fun _ _ => rfl)) (pe_op op_mulW (pv 2) (pe_callH G_fall_of (hr.mono (by omega)) (by rfl) (pa_cons (pv 0) (pa_cons (pe_ix ix_tup (pv 1) pe_int (fun _ _ => rfl)) pa_nil))))) pa_nil)))))), ?_⟩
    refine ⟨_, rfl, rfl, _, rfl, ?_⟩
    by_cases e : n = 0
    · rw [show fnR rs st n = st from if_pos e] at q
      exact iteP (decide_eq_true (by rw [e])) ⟨_, rfl, q _ _ (Same.refl _) hv⟩
    · refine iteN (decide_eq_false fun z => e (V.int.inj z)) ?_
      cases st with
      | none => exact absurd rfl (ne e)
      | some r =>
        rw [show fnR rs (some r) n = withR r.1 (r.2 - n * fallR rs r.1) from if_neg e] at q
        obtain ⟨t, rfl, ht⟩ := hv
        have fb : (fallR rs r.1).natAbs < 2 ^ 10 := by
          have c3 := cntK_pos (k := r.1) pos
          have c4 := cntK_le (k := r.1) pos
          have e : fallR rs r.1 = lenR rs - 2 * cntK rs r.1 := rfl
          omega
        refine ⟨_, rfl, t, _, 0, _, rfl, rfl, .of ht, at0, _, rfl, t, _, 1, _, rfl, rfl, .of ht, at1, _, rfl, _, rfl, _, rfl, t, _, 0, _, rfl, rfl, .of ht, at0, a, rs, r.1, rfl, hR, ok, l400, fun H1 s1 => ?_⟩
        refine ⟨_, _, rfl, rfl, wide_mul nb fb (by decide) (by decide) (by decide), _, _, rfl, rfl, _, _, rfl, fun H2 v2 s2 h2 => q _ _ (s1.trans s2) h2⟩
/-! grows_for_good: slots 0:runs 1:growth 2:state -/
abbrev s_grows_for_good : Stmt := topS 45
theorem sc_grows_for_good : FnScope ["runs", "growth", "state"] ["runs", "growth", "state"] (defScope s_grows_for_good) := ⟨rfl, rfl, rfl, by decide +kernel, rfl, by decide +kernel, by decide +kernel⟩
def sp_grows_for_good : Sp := fun vs H Q _ => ∃ (a : Addr) (rs : List Run) (v u : V) (g st : Option Run), vs = [.ref a, v, u] ∧ Runs H a rs ∧ SeqOk rs ∧ StV H v g ∧ StV H u st ∧ ∀ H', Same H H' → Q (.bl (gfB rs g st)) H'
theorem ok_grows_for_good (D : Df K mg "grows_for_good" s_grows_for_good) (G_length_of : Has P w K mg base 1 "length_of" ["runs"] sp_length_of) : Has P w K mg base 2 "grows_for_good" ["runs", "growth", "state"] sp_grows_for_good := by
  refine has_of D sc_grows_for_good (fun _ _ _ _ _ _ us hl => match us, hl with | [_, _, _], _ => rfl) (fun vs H Q E h => ?_) (fun f cdv A outer s₀ H vs Q E hr h => ?_)
  · obtain ⟨_, _, _, _, _, _, rfl, _⟩ := h
    rfl
  · obtain ⟨a, rs, v, u, g, st, rfl, hR, ok, hv, hu, q⟩ := h
    have l4 := ok.1
    refine ⟨_, (pss_one (ps_ret (pe_and (pe_cmpR op_notN (pv 1) pe_non (nomark _)) (pe_and (pe_cmpR op_notN (pv 2) pe_non (nomark _)) (pe_and (pe_cmpR op_eq (pe_ix ix_tup (pv 2) pe_int (fun _ _ => rfl)) (pe_ix ix_tup (pv 1) pe_int (fun _ _ => rfl)) (nomark _)) (pe_one (pe_cmpR op_ge (pe_ix ix_tup (pv 2) pe_int (fun _ _ => rfl)) (pe_callH G_length_of (hr.mono (by omega)) (by rfl) (pa_cons (pv 0) pa_nil)) (nomark _)))))))), ?_⟩
    cases g with
    | none =>
      cases hv
      exact ⟨_, rfl, rfl, _, rfl, iteN rfl (q _ (Same.refl _))⟩
    | some g =>
      obtain ⟨t, rfl, ht⟩ := hv
      refine ⟨_, rfl, rfl, _, rfl, iteP rfl ?_⟩
      cases st with
      | none =>
        cases hu
        exact ⟨_, rfl, rfl, _, rfl, iteN rfl (q _ (Same.refl _))⟩
      | some r =>
        obtain ⟨t2, rfl, ht2⟩ := hu
        refine ⟨_, rfl, rfl, _, rfl, iteP rfl ?_⟩
        refine ⟨_, rfl, t2, _, 0, _, rfl, rfl, .of ht2, at0, _, rfl, t, _, 0, _, rfl, rfl, .of ht, at0, rfl, _, rfl, ?_⟩
        by_cases c : r.1 = g.1
        · refine iteP (decide_eq_true (by rw [c])) ?_
          refine ⟨_, rfl, t2, _, 1, _, rfl, rfl, .of ht2, at1, _, rfl, a, rs, rfl, hR, by omega, fun H1 s1 => ⟨_, _, rfl, rfl, ?_⟩⟩
          have q := q _ s1
          rw [show gfB rs (some g) (some r) = decide (lenR rs ≤ r.2) by show (decide (r.1 = g.1) && decide (lenR rs ≤ r.2)) = _; rw [decide_eq_true c]; rfl] at q
          exact q
        · refine iteN (decide_eq_false fun z => c (V.str.inj z)) ?_
          have q := q _ (Same.refl _)
          rw [show gfB rs (some g) (some r) = false by show (decide (r.1 = g.1) && decide (lenR rs ≤ r.2)) = _; rw [decide_eq_false c]; rfl] at q
          exact q
end
end UP

set_option Elab.async false
set_option linter.all false
set_option maxRecDepth 100000
set_option maxHeartbeats 4000000
set_option pp.maxSteps 500
namespace UP
open PySem PySem.Spec PyProof.Rows L2
/-- a def whose last parameter has the default dv -/
def HasDv (dv : V) (P : Program) (w : World) (K : PySem.W.Frag) (mg : Str → Option Value) (base : Heap) (k : Nat) (x : Str) (ps : List Str) (n : Nat) (sp : Sp) : Prop :=
  ∃ f fd, mg x = some (.ref f) ∧ PySem.W.keepIn K (.ref f) = true ∧ Binds K fd ps [] ∧ (∃ ds, Vals [dv] ds ∧ Binds K fd ps ds) ∧ FnOk P w K mg base CX0 k f fd ps sp
section
variable {P : Program} {w : World} {K : PySem.W.Frag} {mg : Str → Option Value} {base : Heap}
theorem HasDv.has {dv : V} {k n : Nat} {x : Str} {ps : List Str} {sp : Sp} (h : HasDv dv P w K mg base k x ps n sp) : Has P w K mg base k x ps sp := by
  obtain ⟨f, fd, g, kp, b, _, F⟩ := h
  exact ⟨f, fd, g, kp, b, F⟩
theorem hasDv_of {dv : V} {x : Str} {st : Stmt} {ps N : List Str} {k n : Nat} {sp : Sp} (D : DfD K mg x st [dv]) (S : FnScope N ps (defScope st)) (hpn : ps.length = n + 1)
    (hb : ∀ (T : Addr) (kV doc pm : Value) (an : Option Addr) (cdv ct : Value) (us its : List Value), us.length = n + 1 → its.length = 1 →
      ∃ k, bindArgs (PySem.W.fnOf x x (defArgs st) (defBody st) (defScope st) (.ref T) kV doc pm an cdv ct) ⟨us, []⟩ = seqItems? (.ref T) >>= k ∧ k (some its.toArray) = pure (ps.zip us))
    (hb1 : ∀ (T : Addr) (kV doc pm : Value) (an : Option Addr) (cdv ct : Value) (us its : List Value), us.length = n → its.length = 1 →
      ∃ k, bindArgs (PySem.W.fnOf x x (defArgs st) (defBody st) (defScope st) (.ref T) kV doc pm an cdv ct) ⟨us, []⟩ = seqItems? (.ref T) >>= k ∧ k (some its.toArray) = pure (ps.zip (us ++ its)))
    (len : ∀ vs H Q E, sp vs H Q E → vs.length = ps.length)
    (body : ∀ (f : Addr) (cdv : Value) (A : Around) (outer : List Env) (s : Shared) (H : Hp) (vs : List V) (Q : VK) (E : XK), Room k (A.deeper (envOfC x (defScope st) s.heap.objs.size f cdv)) → sp vs H Q E →
      ∃ t, PSs (cxOf CX0 P w K mg base N x (defScope st) f cdv A outer s H E).nox (defBody st) t ∧ t { nx := fun _ H' => Q .non H', rt := Q } (start N vs) H) :
    HasDv dv P w K mg base (k + 1) x ps n sp := by
  obtain ⟨f, fd, g, F⟩ := D
  have B0 : Binds K fd ps [] := by
    obtain ⟨ds, v, b⟩ := F.binds1 (n + 1) 1 (ps := ps) (by intro z; cases z) (by rw [hpn]; rfl) fun T kV doc pm an cdv ct us its h1 h2 => by
      obtain ⟨k, e1, e2⟩ := hb T kV doc pm an cdv ct us its h1 h2
      refine ⟨k, e1, ?_⟩
      have h3 : its.length ≤ 1 := Nat.le_of_eq h2
      rw [e2, List.drop_of_length_le h3, List.append_nil]
    cases v
    exact b
  have B1 : ∃ ds, Vals [dv] ds ∧ Binds K fd ps ds := by
    obtain ⟨ds, v, b⟩ := F.binds1 n 0 (ps := ps) (by intro z; cases z) (by rw [hpn]; rfl) fun T kV doc pm an cdv ct us its h1 h2 => by
      obtain ⟨k, e1, e2⟩ := hb1 T kV doc pm an cdv ct us its h1 h2
      exact ⟨k, e1, by rw [e2, List.drop_zero]⟩
    exact ⟨ds, v, b⟩
  refine ⟨f, fd, g, F.kp, B0, B1, F.ok S len fun cdv A outer s H vs Q E hr h => ?_⟩
  obtain ⟨t, p, q⟩ := body f cdv A outer s H vs Q E hr h
  exact ⟨t, p.nox, q⟩
end
section
variable {X : Cx}
theorem pe_callDv {dv : V} {k n : Nat} {x : Str} {ps : List Str} {sp : Sp} {p pos : Pos} {e : Expr} {es : List Expr} {t : TA} (G : HasDv dv X.prog X.w X.K X.mg X.base k x ps n sp) (hr : Room k X.A) (hg : Gl X x) (ha : PA X (e :: es) t)
    (hdb : (x == ("__debug__" : Str)) = false := by decide) (he : starEach (e :: es) X.env = (false, eval e X.env) :: starEach es X.env := by rfl) (hpl : (backTo pos (starEach es X.env)).any (·.1) = false := by rfl) :
    PE X (.Call (.Name x p) (e :: es) [] pos) (tCall sp [dv] E0 t) := by
  obtain ⟨f, fd, g, kp, _, ⟨ds, v, b⟩, F⟩ := G
  exact pe_call F hr hg g kp b v pass0 ha hdb he hpl
theorem room65 {A : Around} {k : Nat} (hr : Room k A) : A.units + 65 < cLine := by
  have := hr.un
  omega
end
/-! ### the states round by round -/
def itS (rs : List Run) (st : Option Run) : Nat → Option Run
  | 0 => st
  | n + 1 => stR rs (itS rs st n)
/-- the course ends with the n-th state -/
structure CEnd (rs : List Run) (g : Option Run) (most : Int) (st : Option Run) (n : Nat) : Prop where
  go : ∀ i, i < n → (i : Int) + 1 ≤ most ∧ gfB rs g (itS rs st i) = false ∧ ∀ j, j < i → itS rs st j ≠ itS rs st i
  stop : most < (n : Int) + 1 ∨ gfB rs g (itS rs st n) = true ∨ ∃ j, j < n ∧ itS rs st j = itS rs st n
def Sts (H : Hp) (p : Addr) (l : List (Option Run)) : Prop := ∃ xs, H p = some (.lst xs) ∧ Paired (StV H) xs l
def courseR (rs : List Run) (st : Option Run) (n : Nat) : List (Option Run) := (List.range (n + 1)).map (itS rs st)
def keyR : Option Run → NestedKey
  | none => .none
  | some r => .tup [.text r.1, .num r.2]
theorem keyR_inj {a b : Option Run} (h : keyR a = keyR b) : a = b := by
  cases a with
  | none => cases b with
    | none => rfl
    | some s => cases h
  | some r => cases b with
    | none => cases h
    | some s =>
      obtain ⟨r1, r2⟩ := r
      obtain ⟨s1, s2⟩ := s
      simp only [keyR, NestedKey.tup.injEq, List.cons.injEq, NestedKey.text.injEq, NestedKey.num.injEq] at h
      rw [h.1, h.2.1]
theorem key_st {H : Hp} {v : V} {st : Option Run} (h : StV H v st) : KeyIn H (keyR st) v := by
  cases st with
  | none =>
    cases h
    exact ⟨.non, by decide, .inl rfl⟩
  | some r =>
    obtain ⟨t, rfl, ht⟩ := h
    exact ⟨.tup ht (.cons (.str _) (.cons (.int _) .nil)), by show NestedKey.depth (.tup [.text r.1, .num r.2]) ≤ 8; simp [NestedKey.depth, NestedKey.depthAll], .inr ⟨t, rfl⟩⟩
/-- all but two objects stay -/
def But2 (p d : Addr) (H H' : Hp) : Prop := ∀ b o, b ≠ p → b ≠ d → H b = some o → H' b = some o
theorem But2.trans {p d : Addr} {H H1 H2 : Hp} (a : But2 p d H H1) (b : But2 p d H1 H2) : But2 p d H H2 := fun c o n1 n2 h => b c o n1 n2 (a c o n1 n2 h)
theorem But2.of {p d : Addr} {H H' : Hp} (s : Same H H') : But2 p d H H' := fun c o _ _ h => s c o h
theorem But2.p {p d : Addr} {H : Hp} {o : HO} : But2 p d H (upd H p o) := fun c u n1 _ h => by rw [upd_ne n1]; exact h
theorem But2.d {p d : Addr} {H : Hp} {o : HO} : But2 p d H (upd H d o) := fun c u _ n2 h => by rw [upd_ne n2]; exact h
/-- neither of the two is a tuple -/
def NoTup (H : Hp) (p : Addr) : Prop := ∀ xs, H p ≠ some (.tup xs)
theorem StV.but2 {p d : Addr} {H H' : Hp} {v : V} {st : Option Run} (b : But2 p d H H') (np : NoTup H p) (nd : NoTup H d) (h : StV H v st) : StV H' v st := by
  cases st with
  | none => exact h
  | some r =>
    obtain ⟨t, rfl, ht⟩ := h
    exact ⟨t, rfl, b _ _ (fun z => np _ (z ▸ ht)) (fun z => nd _ (z ▸ ht)) ht⟩
theorem sts_but2 {p d : Addr} {H H' : Hp} {xs : List V} {l : List (Option Run)} (b : But2 p d H H') (np : NoTup H p) (nd : NoTup H d) (h : Paired (StV H) xs l) : Paired (StV H') xs l := Paired.imp (fun _ _ => StV.but2 b np nd) h
theorem noTup_lst {H : Hp} {p : Addr} {xs : List V} (h : H p = some (.lst xs)) : NoTup H p := fun ys z => by rw [h] at z; cases z
theorem noTup_dx {w : World} {H : Hp} {p : Addr} {rows : List RowX} (h : H p = some (DX w p rows)) : NoTup H p := fun ys z => by rw [h] at z; cases z
section
variable {P : Program} {w : World} {K : PySem.W.Frag} {mg : Str → Option Value} {base : Heap}
/-! course_of: slots 0:runs 1:growth 2:state 3:most 4:states 5:seen -/
abbrev s_course_of : Stmt := topS 46
theorem sc_course_of : FnScope ["runs", "growth", "state", "most", "states", "seen"] ["runs", "growth", "state", "most"] (defScope s_course_of) := ⟨rfl, rfl, rfl, by decide +kernel, rfl, by decide +kernel, by decide +kernel⟩
def sp_course_of : Sp := fun vs H Q _ => ∃ (a : Addr) (rs : List Run) (gv v : V) (g st : Option Run) (most : Int) (n : Nat), vs = [.ref a, gv, v, .int most] ∧ Runs H a rs ∧ SeqOk rs ∧ StV H gv g ∧ StV H v st ∧ CEnd rs g most st n ∧ n ≤ 400000 ∧
  ∀ H' p, Same H H' → H p = none → Sts H' p (courseR rs st n) → Q (.ref p) H'
theorem ok_course_of (D : DfD K mg "course_of" s_course_of [.int 1000000000000000000000000000000]) (T : Tx mg) (G_grows_for_good : Has P w K mg base 2 "grows_for_good" ["runs", "growth", "state"] sp_grows_for_good) (G_state_after_runs : Has P w K mg base 3 "state_after_runs" ["runs", "state"] sp_state_after_runs) :
    HasDv (.int 1000000000000000000000000000000) P w K mg base 4 "course_of" ["runs", "growth", "state", "most"] 3 sp_course_of := by
  refine hasDv_of D sc_course_of rfl (fun T kV doc pm an cdv ct us its h1 h2 => ?_) (fun T kV doc pm an cdv ct us its h1 h2 => ?_) (fun vs H Q E h => ?_) (fun f cdv A outer s₀ H vs Q E hr h => ?_)
  · match us, its, h1, h2 with
    | [_, _, _, _], [_], _, _ => exact ⟨_, rfl, rfl⟩
  · match us, its, h1, h2 with
    | [_, _, _], [_], _, _ => exact ⟨_, rfl, rfl⟩
  · obtain ⟨_, _, _, _, _, _, _, _, rfl, _⟩ := h
    rfl
  · obtain ⟨a, rs, gv, v, g, st, most, n, rfl, hR, ok, hg, hv, ce, nl, q⟩ := h
    have l4 := ok.1
    have pos : ∀ r ∈ rs, 1 ≤ r.2 := fun r hr => (ok.2.1 r hr).2.1
    refine ⟨_, (pss_cons (ps_set (i := 4) sc_course_of.nd rfl (by first | exact Or.inl rfl | exact Or.inr rfl) (pe_lst (pa_cons (pv 2) pa_nil)))
    (pss_cons (ps_set (i := 5) sc_course_of.nd rfl (by first | exact Or.inl rfl | exact Or.inr rfl) (pe_doneX (w := w) rfl (room65 hr) (pv 2) pe_bl))
    (pss_cons (ps_while PassesOwn.never (PW.pt (pw_and (pt_cmpR op_le (pe_callB call_len_seq (by rfl) T.n_len (by decide +kernel) (pa_cons (pv 4) pa_nil)) (pv 3) (nomark _)) (pw_and1 (pt_not (pt_val (pe_callH G_grows_for_good (hr.mono (by omega)) (by rfl) (pa_cons (pv 0) (pa_cons (pv 1) (pa_cons (pv 2) pa_nil)))))))))
      (pss_cons (ps_set (i := 2) sc_course_of.nd rfl (by first | exact Or.inl rfl | exact Or.inr rfl) (pe_callH G_state_after_runs (hr.mono (by omega)) (by rfl) (pa_cons (pv 0) (pa_cons (pv 2) pa_nil))))
    (pss_cons (ps_expr (pe_bm PySem.F.plainAttrs_list PySem.F.slot_list_append PySem.F.type_list_append mt_append (pv 4) (pa_cons (pv 2) pa_nil)))
    (pss_cons (ps_if (pt_cmpR (op_inX (w := w) rfl (room65 hr)) (pv 2) (pv 5) (by with_unfolding_all rfl)) (pss_one ps_break) pss_nil)
    (pss_one (ps_dputX (w := w) rfl (room65 hr) (pv 5) (pv 2) pe_bl rfl))))))
    (pss_one (ps_ret (pv 4)))))), ?_⟩
    refine ⟨_, rfl, (by show 1 ≤ sizeLine; decide), fun p np => ?_⟩
    refine fun d nd => ⟨_, rfl, upd_same, keyR st, ?_, ?_⟩
    · exact key_st ((hv.same (same_upd np)).same (same_upd nd))
    have pd : d ≠ p := fun z => by rw [z, upd_same] at nd; cases nd
    have hd0 : H d = none := by rw [upd_ne pd] at nd; exact nd
    rw [upd_upd]
    have s0 : Same H (upd H p (.lst [v])) := same_upd np
    have b0 : But2 p d H (upd (upd H p (.lst [v])) d (DX w d [(keyR st, v, .bl true)])) := But2.p.trans But2.d
    have fin : ∀ (H' : Hp) (xs : List V), But2 p d H H' → H' p = some (.lst xs) → Paired (StV H') xs (courseR rs st n) → Q (.ref p) H' := fun H' xs b hp pr =>
      q H' p (fun c o e => b c o (fun z => by rw [z, np] at e; cases e) (fun z => by rw [z, hd0] at e; cases e) e) np ⟨xs, hp, pr⟩
    have len : ∀ {H' : Hp} {xs : List V} {i : Nat}, Paired (StV H') xs (courseR rs st i) → xs.length = i + 1 := fun h => by rw [Paired.len h]; simp [courseR]
    have HR : ∀ {H' : Hp}, But2 p d H H' → Runs H' a rs := fun {H'} b => by
      obtain ⟨xs, hx, hp⟩ := hR
      have sm : Same H H' := fun c o e => b c o (fun z => by rw [z, np] at e; cases e) (fun z => by rw [z, hd0] at e; cases e) e
      exact ⟨xs, sm _ _ hx, prs_same sm hp⟩
    have HG : ∀ {H' : Hp}, But2 p d H H' → StV H' gv g := fun {H'} b => hg.same fun c o e => b c o (fun z => by rw [z, np] at e; cases e) (fun z => by rw [z, hd0] at e; cases e) e
    refine ⟨fun m σ H' => ∃ (i : Nat) (vi : V) (xs : List V) (rows : List RowX), m = n - i ∧ i ≤ n ∧ σ = [some (.ref a), some gv, some vi, some (.int most), some (.ref p), some (.ref d)] ∧ But2 p d H H' ∧ H' p = some (.lst xs) ∧ Paired (StV H') xs (courseR rs st i) ∧ DXs w H' d rows ∧ rows.map (·.1) = (courseR rs st i).map keyR ∧ StV H' vi (itS rs st i) ∧ ∀ j, j < i → itS rs st j ≠ itS rs st i, ⟨n, 0, v, [v], [(keyR st, v, .bl true)], rfl, Nat.zero_le _, rfl, b0, ?_, ?_, ?_, rfl, ?_, fun j hj => absurd hj (Nat.not_lt_zero _)⟩, fun m σ H2 hW => ?_⟩
    · rw [upd_ne (fun z => pd z.symm), upd_same]
    · refine .cons ?_ .nil
      exact (hv.same s0).same (same_upd nd)
    · refine ⟨upd_same, fun r hr => ?_⟩
      rw [List.mem_singleton.mp hr]
      exact (key_st (hv.same s0)).same (same_upd nd)
    · exact (hv.same s0).same (same_upd nd)
    obtain ⟨i, vi, xs, rows, rfl, hi, rfl, b2, hp2, pr2, dx2, ks2, hv2, new⟩ := hW
    have lx := len pr2
    have ex : ∀ (H' : Hp), Same H2 H' → i = n → Q (.ref p) H' := fun H' s e => by
      refine fin H' xs (b2.trans (.of s)) (s _ _ hp2) ?_
      rw [← e]
      exact Paired.imp (fun _ _ => StV.same s) pr2
    by_cases c1 : (i : Int) + 1 ≤ most
    · refine ⟨_, rfl, p, xs, rfl, .inl (.of hp2), _, rfl, _, _, rfl, rfl, _, rfl, iteP (decide_eq_true (by rw [lx]; omega)) ?_⟩
      refine ⟨_, rfl, _, rfl, _, rfl, a, rs, gv, vi, g, _, rfl, HR b2, ok, HG b2, hv2, fun H3 s3 => ⟨_, rfl, ?_⟩⟩
      by_cases c2 : gfB rs g (itS rs st i) = true
      · refine iteN (by rw [c2]; rfl) ⟨_, rfl, ex H3 s3 ?_⟩
        refine Classical.byContradiction fun z => ?_
        have := (ce.go i (by omega)).2.1
        rw [c2] at this
        cases this
      · have c2 : gfB rs g (itS rs st i) = false := by simpa using c2
        have lt : i < n := by
          refine Classical.byContradiction fun z => ?_
          have e : i = n := by omega
          rcases ce.stop with h | h | ⟨j, hj, h⟩
          · omega
          · rw [← e, c2] at h
            cases h
          · rw [← e] at hj h
            exact new j hj h
        have ntp : ∀ {H' : Hp}, Same H2 H' → NoTup H' p := fun s => noTup_lst (s _ _ hp2)
        have ntd : ∀ {H' : Hp}, Same H2 H' → NoTup H' d := fun s => noTup_dx (s _ _ dx2.there)
        refine iteP (by rw [c2]; rfl) ⟨fun σ' H' => ∃ (vi : V) (xs : List V) (rows : List RowX), σ' = [some (.ref a), some gv, some vi, some (.int most), some (.ref p), some (.ref d)] ∧ But2 p d H H' ∧ H' p = some (.lst xs) ∧ Paired (StV H') xs (courseR rs st (i + 1)) ∧ DXs w H' d rows ∧ rows.map (·.1) = (courseR rs st (i + 1)).map keyR ∧ StV H' vi (itS rs st (i + 1)) ∧ ∀ j, j < i + 1 → itS rs st j ≠ itS rs st (i + 1), fun σ' H' ⟨vi, xs, rows, h⟩ => ⟨n - (i + 1), by omega, i + 1, vi, xs, rows, rfl, lt, h⟩, ?_⟩
        refine ⟨_, rfl, _, rfl, a, rs, vi, _, rfl, HR (b2.trans (.of s3)), pos, hv2.same s3, fun H4 v4 s4 h4 => ?_⟩
        have h4 : StV H4 v4 (itS rs st (i + 1)) := h4
        have s24 := s3.trans s4
        refine ⟨_, rfl, .inl ⟨rfl, _, SqL.of (s24 _ _ hp2)⟩, _, rfl, p, xs, v4, rfl, rfl, s24 _ _ hp2, small (by omega), ?_⟩
        have b5 : But2 p d H4 (upd H4 p (.lst (xs ++ [v4]))) := .p
        have dx5 : DXs w (upd H4 p (.lst (xs ++ [v4]))) d rows := by
          have D4 := dx2.same s24
          exact ⟨by rw [upd_ne pd]; exact D4.there, fun r hr => (D4.keys r hr).at fun c ys e => b5 c _ (fun z => ntp s24 _ (z ▸ e)) (fun z => ntd s24 _ (z ▸ e)) e⟩
        have h5 := h4.but2 b5 (ntp s24) (ntd s24)
        have crs : courseR rs st (i + 1) = courseR rs st i ++ [itS rs st (i + 1)] := by
          unfold courseR
          rw [List.range_succ (n := i + 1), List.map_append]
          rfl
        have pr5 : Paired (StV (upd H4 p (.lst (xs ++ [v4])))) (xs ++ [v4]) (courseR rs st (i + 1)) := by
          rw [crs]
          exact Paired.app (sts_but2 b5 (ntp s24) (ntd s24) (Paired.imp (fun _ _ => StV.same s24) pr2)) (.cons h5 .nil)
        have bA : But2 p d H (upd H4 p (.lst (xs ++ [v4]))) := (b2.trans (.of s24)).trans b5
        refine ⟨_, rfl, _, rfl, d, rows, keyR (itS rs st (i + 1)), rfl, dx5, key_st h5, _, rfl, ?_⟩
        rw [valX_isSome, ks2]
        by_cases c3 : keyR (itS rs st (i + 1)) ∈ (courseR rs st i).map keyR
        · refine iteP (decide_eq_true c3) ⟨_, rfl, ?_⟩
          have e : i + 1 = n := by
            obtain ⟨s, hs, es⟩ := List.mem_map.mp c3
            obtain ⟨j, hj, ej⟩ := List.mem_map.mp hs
            rw [List.mem_range] at hj
            refine Classical.byContradiction fun z => (ce.go (i + 1) (by omega)).2.2 j hj ?_
            rw [ej]
            exact keyR_inj es
          refine fin _ _ bA upd_same ?_
          rw [← e]
          exact pr5
        · refine iteN (decide_eq_false c3) ⟨_, rfl, _, rfl, d, rows, keyR (itS rs st (i + 1)), rfl, dx5, key_st h5, ?_, ?_⟩
          · have : rows.length = i + 1 := by
              have := congrArg List.length ks2
              simpa [courseR] using this
            exact Nat.le_of_lt (small (by omega))
          · have n3 : keyR (itS rs st (i + 1)) ∉ rows.map (·.1) := by rw [ks2]; exact c3
            have b6 : But2 p d (upd H4 p (.lst (xs ++ [v4]))) (upd (upd H4 p (.lst (xs ++ [v4]))) d (DX w d (putX rows (keyR (itS rs st (i + 1))) v4 (.bl true)))) := .d
            have tp : NoTup (upd H4 p (.lst (xs ++ [v4]))) p := noTup_lst upd_same
            have td : NoTup (upd H4 p (.lst (xs ++ [v4]))) d := noTup_dx dx5.there
            refine ⟨v4, _, _, rfl, bA.trans b6, ?_, sts_but2 b6 tp td pr5, dx5.put (key_st h5), ?_, h5.but2 b6 tp td, fun j hj z => c3 ?_⟩
            · rw [upd_ne (fun z => pd z.symm), upd_same]
            · rw [putX_new n3, List.map_append, ks2, crs, List.map_append]
              rfl
            · rw [← z]
              exact List.mem_map.mpr ⟨_, List.mem_map.mpr ⟨j, List.mem_range.mpr hj, rfl⟩, rfl⟩
    · refine ⟨_, rfl, p, xs, rfl, .inl (.of hp2), _, rfl, _, _, rfl, rfl, _, rfl, iteN (decide_eq_false (by rw [lx]; omega)) (iteF ⟨_, rfl, ex H2 (Same.refl _) ?_⟩)⟩
      refine Classical.byContradiction fun z => c1 (ce.go i (by omega)).1
end
end UP

set_option Elab.async false
set_option linter.all false
set_option maxRecDepth 100000
set_option maxHeartbeats 4000000
set_option pp.maxSteps 500
namespace UP
open PySem PySem.Spec PyProof.Rows L2
theorem Sts.same {H H' : Hp} {p : Addr} {l : List (Option Run)} (s : Same H H') (h : Sts H p l) : Sts H' p l := by
  obtain ⟨xs, hx, hp⟩ := h
  exact ⟨xs, s _ _ hx, Paired.imp (fun _ _ => StV.same s) hp⟩
theorem Sts.at {H : Hp} {p : Addr} {l : List (Option Run)} (h : Sts H p l) {i : Nat} {st : Option Run} (e : l[i]? = some st) : ∃ xs v, H p = some (.lst xs) ∧ xs.length = l.length ∧ xs[i]? = some v ∧ StV H v st := by
  obtain ⟨xs, hx, hp⟩ := h
  rcases paired_get (i := i) hp with ⟨_, e2⟩ | ⟨v, s, e1, e2, hv⟩
  · rw [e] at e2; cases e2
  · rw [e] at e2
    cases e2
    exact ⟨xs, v, hx, Paired.len hp, e1, hv⟩
theorem dp_stsC {K : PySem.W.Frag} {H : Hp} {p : Addr} {es : List (Option Run)} (h : Sts H p es) : Dp K H (.ref p) (.list (es.map dOt)) := by
  obtain ⟨xs, hx, hp⟩ := h
  refine .lst (.of hx) ?_
  have gen : ∀ {xs : List V} {es : List (Option Run)}, Paired (StV H) xs es → DpAll K H xs (es.map dOt) := by
    intro xs es h
    induction h with
    | nil => exact .nil
    | cons h _ ih => exact .cons (dp_o h) ih
  exact gen hp
theorem shaped_stsC {es : List (Option Run)} (h : ∀ e ∈ es, StOk e) : SeqAt.shaped (.list (es.map dOt)) = true := by
  have c : PyData.canLayAll0 (es.map dOt) = true ∧ PyData.depthAll (es.map dOt) ≤ 2 := by
    induction es with
    | nil => exact ⟨rfl, Nat.zero_le _⟩
    | cons e t ih =>
      obtain ⟨i1, i2⟩ := ih fun x hx => h x (List.mem_cons_of_mem _ hx)
      have he : (dOt e).canLay0 = true ∧ (dOt e).depth ≤ 2 := by
        cases e with
        | none => exact ⟨rfl, Nat.zero_le _⟩
        | some r => exact ⟨can_run (h _ (List.mem_cons_self ..) r rfl).1, depth_run r⟩
      constructor
      · rw [List.map_cons, PyData.canLayAll0, he.1, i1]
        rfl
      · rw [List.map_cons, PyData.depthAll]
        exact Nat.max_le.mpr ⟨he.2, i2⟩
  unfold SeqAt.shaped
  rw [PyData.canLay0, c.1, PyData.depth]
  have := c.2
  exact decide_eq_true (by omega)
def agB (g : Run) (b a : Option Run) : Bool := (match b with
  | none => true
  | some r => decide (r.1 = g.1)) && decide (a = some (g.1, numR b + g.2))
/-- the first place of the last state -/
def startR (l : List (Option Run)) : Nat := l.findIdx fun s => decide (s = l.getLast?.getD none)
def contR (l : List (Option Run)) (g : Option Run) (n : Int) : Option Run := if n ≤ (l.length : Int) - 1 then l.getD n.toNat none else match g with
  | some g0 => some (g0.1, numR (l.getLast?.getD none) + (n - ((l.length : Int) - 1)) * g0.2)
  | none => l.getD (startR l + ((n - startR l) % ((l.length : Int) - 1 - startR l)).toNat) none
section
variable {P : Program} {w : World} {K : PySem.W.Frag} {mg : Str → Option Value} {base : Heap}
/-! continued: slots 0:states 1:growth 2:rounds 3:last 4:start -/
abbrev s_continued : Stmt := topS 47
theorem sc_continued : FnScope ["states", "growth", "rounds", "last", "start"] ["states", "growth", "rounds"] (defScope s_continued) := ⟨rfl, rfl, rfl, by decide +kernel, rfl, by decide +kernel, by decide +kernel⟩
def sp_continued : Sp := fun vs H Q _ => ∃ (p : Addr) (gv : V) (l : List (Option Run)) (g : Option Run) (n : Int), vs = [.ref p, gv, .int n] ∧ Sts H p l ∧ StV H gv g ∧ (∀ s ∈ l, StOk s) ∧ l ≠ [] ∧ l.length ≤ 500000 ∧ 0 ≤ n ∧ n.natAbs < 2 ^ 500000 ∧
  ((l.length : Int) - 1 < n → (g = none → startR l + 1 < l.length) ∧ ∀ g0, g = some g0 → l.getLast?.getD none ≠ none ∧ g0.2.natAbs < 2 ^ 10) ∧ ∀ H' v', Same H H' → StV H' v' (contR l g n) → Q v' H'
theorem ok_continued (D : Df K mg "continued" s_continued) (T : Tx mg) : Has P w K mg base 1 "continued" ["states", "growth", "rounds"] sp_continued := by
  refine has_of D sc_continued (fun _ _ _ _ _ _ us hl => match us, hl with | [_, _, _], _ => rfl) (fun vs H Q E h => ?_) (fun f cdv A outer s₀ H vs Q E hr h => ?_)
  · obtain ⟨_, _, _, _, _, rfl, _⟩ := h
    rfl
  · obtain ⟨p, gv, l, g, n, rfl, hl, hg, ok, ne, l2, n0, nb, good, q⟩ := h
    refine ⟨_, (pss_cons (ps_set (i := 3) sc_continued.nd rfl (by first | exact Or.inl rfl | exact Or.inr rfl) (pe_op op_sub (pe_callB call_len_seq (by rfl) T.n_len (by decide +kernel) (pa_cons (pv 0) pa_nil)) pe_int))
    (pss_cons (ps_if (pt_cmpR op_le (pv 2) (pv 3) (nomark _)) (pss_one (ps_ret (pe_ix ix_list (pv 0) (pv 2) (fun _ _ => rfl)))) pss_nil)
    (pss_cons (ps_if (pt_cmpR op_notN (pv 1) pe_non (nomark _)) (pss_one (ps_ret (pe_tup (pa_cons (pe_ix ix_tup (pv 1) pe_int (fun _ _ => rfl)) (pa_cons (pe_op op_add (pe_ix ix_tup (pe_ix ix_list (pv 0) (pv 3) (fun _ _ => rfl)) pe_int (fun _ _ => rfl)) (pe_op op_mulW (pe_op op_sub (pv 2) (pv 3)) (pe_ix ix_tup (pv 1) pe_int (fun _ _ => rfl)))) pa_nil))))) pss_nil)
    (pss_cons (ps_set (i := 4) sc_continued.nd rfl (by first | exact Or.inl rfl | exact Or.inr rfl) (pe_bm PySem.F.plainAttrs_list PySem.F.slot_list_index PySem.F.type_list_index (mt_indexD (room65 hr)) (pv 0) (pa_cons (pe_ix ix_list (pv 0) (pv 3) (fun _ _ => rfl)) pa_nil)))
    (pss_one (ps_ret (pe_ix ix_list (pv 0) (pe_op op_add (pv 4) (pe_op op_mod (pe_op op_sub (pv 2) (pv 4)) (pe_op op_sub (pv 3) (pv 4)))) (fun _ _ => rfl)))))))), ?_⟩
    obtain ⟨xs, hx, hp⟩ := id hl
    have lx : xs.length = l.length := Paired.len hp
    have lpos : 0 < l.length := List.length_pos_iff.mpr ne
    obtain ⟨sl, esl⟩ : ∃ sl, l[l.length - 1]? = some sl := ⟨_, List.getElem?_eq_getElem (by omega)⟩
    have gl : l.getLast?.getD none = sl := by rw [List.getLast?_eq_getElem?, esl]; rfl
    have at' : ∀ (j : Nat) (s : Option Run), l[j]? = some s → ∃ v, xs[j]? = some v ∧ StV H v s := fun j s e => by
      obtain ⟨ys, v, hy, _, ev, hv⟩ := hl.at e
      rw [hx] at hy
      cases hy
      exact ⟨v, ev, hv⟩
    refine ⟨_, rfl, p, xs, rfl, .inl (.of hx), _, _, rfl, rfl, ?_⟩
    refine ⟨_, rfl, _, rfl, _, _, rfl, rfl, _, rfl, ?_⟩
    rw [lx]
    by_cases c : n ≤ (l.length : Int) - 1
    · refine iteP (decide_eq_true c) ?_
      obtain ⟨s, es⟩ : ∃ s, l[n.toNat]? = some s := ⟨_, List.getElem?_eq_getElem (by omega)⟩
      obtain ⟨v, ev, hv⟩ := at' _ _ es
      have q := q H v (Same.refl _)
      rw [show contR l g n = s by unfold contR; rw [if_pos c, List.getD_eq_getElem?_getD, es]; rfl] at q
      exact ⟨_, rfl, _, rfl, p, xs, n, v, rfl, rfl, .of hx, by rw [show n = ((n.toNat : Nat) : Int) by omega]; exact atI_nat ev, q hv⟩
    · refine iteN (decide_eq_false c) ?_
      obtain ⟨g1, g2⟩ := good (by omega)
      obtain ⟨vl, evl, hvl⟩ := at' _ _ esl
      have evl' : atI xs ((l.length : Int) - 1) = some vl := by rw [show (l.length : Int) - 1 = ((l.length - 1 : Nat) : Int) by omega]; exact atI_nat evl
      cases g with
      | some g0 =>
        obtain ⟨tg, rfl, htg⟩ := hg
        obtain ⟨nn, gb⟩ := g2 g0 rfl
        rw [gl] at nn
        cases sl with
        | none => exact absurd rfl nn
        | some r =>
          obtain ⟨tr, rfl, htr⟩ := hvl
          refine ⟨_, rfl, rfl, _, rfl, iteP rfl ?_⟩
          have q := fun o t => q (upd H t o) (.ref t)
          rw [show contR l (some g0) n = some (g0.1, r.2 + (n - ((l.length : Int) - 1)) * g0.2) by unfold contR; rw [if_neg c, gl]; rfl] at q
          refine ⟨_, rfl, tg, _, 0, _, rfl, rfl, .of htg, at0, _, rfl, _, rfl, p, xs, _, _, rfl, rfl, .of hx, evl', tr, _, 1, _, rfl, rfl, .of htr, at1, ?_⟩
          refine ⟨_, rfl, _, rfl, _, _, rfl, rfl, _, rfl, tg, _, 1, _, rfl, rfl, .of htg, at1, _, _, rfl, rfl, wide_mul (a := 500000) (Nat.lt_of_le_of_lt (by omega) nb) gb (by decide) (by decide) (by decide), _, _, rfl, rfl, (by show 2 ≤ sizeLine; decide), fun t nt => q _ t (same_upd nt) ⟨t, rfl, upd_same⟩⟩
      | none =>
        cases hg
        have st := g1 rfl
        refine ⟨_, rfl, rfl, _, rfl, iteN rfl ?_⟩
        have fs : l[startR l]? = some sl := by
          have lt : startR l < l.length := by omega
          have := List.findIdx_getElem (w := lt)
          rw [List.getElem?_eq_getElem lt]
          exact congrArg some ((of_decide_eq_true this).trans gl)
        have fno : ∀ (m : Nat) (z : Option Run), m < startR l → l[m]? = some z → z ≠ sl := fun m z hm e => by
          have lt : m < l.length := by omega
          have := List.not_of_lt_findIdx (p := fun s => decide (s = l.getLast?.getD none)) (xs := l) hm
          rw [List.getElem?_eq_getElem lt] at e
          cases e
          exact fun e => (of_decide_eq_false this) (e.trans gl.symm)
        refine ⟨_, rfl, .inl ⟨rfl, _, SqL.of hx⟩, _, rfl, _, rfl, p, xs, _, vl, rfl, rfl, .of hx, evl', p, vl, dOt sl, l.map dOt, startR l, dOt sl, rfl, rfl, dp_stsC hl, dp_o hvl, shaped_stsC ok, shaped_o (ok sl (List.mem_of_getElem? esl)), by rw [List.getElem?_map, fs]; rfl, by rw [eqv_o]; exact decide_eq_true rfl, fun m z hm e => ?_, ?_⟩
        · rw [List.getElem?_map] at e
          cases hz : l[m]? with
          | none => rw [hz] at e; cases e
          | some s =>
            rw [hz] at e
            cases e
            rw [eqv_o]
            exact decide_eq_false (fno m s hm hz)
        · have dpos : (0 : Int) < (l.length : Int) - 1 - (startR l : Nat) := by omega
          have m0 := Int.emod_nonneg (n - (startR l : Nat)) (Int.ne_of_gt dpos)
          have m1 := Int.emod_lt_of_pos (n - (startR l : Nat)) dpos
          have q := q H
          rw [show contR l none n = l.getD (startR l + ((n - startR l) % ((l.length : Int) - 1 - startR l)).toNat) none by unfold contR; rw [if_neg c]] at q
          generalize hk : (n - (startR l : Nat)) % ((l.length : Int) - 1 - (startR l : Nat)) = k at m0 m1 q
          obtain ⟨s, es⟩ : ∃ s, l[startR l + k.toNat]? = some s := ⟨_, List.getElem?_eq_getElem (by omega)⟩
          obtain ⟨v, ev, hv⟩ := at' _ _ es
          have q := q v (Same.refl _)
          rw [List.getD_eq_getElem?_getD, es] at q
          exact ⟨_, rfl, _, rfl, _, rfl, _, rfl, _, _, rfl, rfl, _, rfl, _, rfl, _, _, rfl, rfl, _, _, rfl, rfl, dpos, _, _, rfl, rfl, p, xs, _, v, rfl, rfl, .of hx, by rw [hk, show ((startR l : Nat) : Int) + k = ((startR l + k.toNat : Nat) : Int) by omega]; exact atI_nat ev, q hv⟩
end
end UP

set_option Elab.async false
set_option linter.all false
set_option maxRecDepth 100000
set_option maxHeartbeats 4000000
set_option pp.maxSteps 500
namespace UP
open PySem PySem.Spec PyProof.Rows L2
/-! ### states stay states -/
theorem stOk_stepC {a : Option Run} {k : Str} {c : Int} (h : StOk a) (kk : KindOk k) (c1 : 1 ≤ c) : StOk (stepR a k c) := by
  intro r e
  cases a with
  | none =>
    cases e
    exact ⟨kk, c1⟩
  | some s =>
    have hs := h s rfl
    by_cases e1 : s.1 = k
    · rw [show stepR (some s) k c = some (k, s.2 + c) from if_pos e1] at e
      cases e
      exact ⟨kk, by show 1 ≤ s.2 + c; have := hs.2; omega⟩
    · rw [show stepR (some s) k c = if 0 < s.2 - c then some (s.1, s.2 - c) else if s.2 - c = 0 then none else some (k, -(s.2 - c)) from if_neg e1] at e
      split at e
      · cases e
        exact ⟨hs.1, by show 1 ≤ s.2 - c; omega⟩
      · split at e
        · cases e
        · cases e
          exact ⟨kk, by show 1 ≤ -(s.2 - c); omega⟩
theorem stOk_stR : ∀ (rs : List Run) (st : Option Run), (∀ r ∈ rs, KindOk r.1 ∧ 1 ≤ r.2) → StOk st → StOk (stR rs st)
  | [], st, _, h => h
  | r :: t, st, k, h => by
    have hr := k r (List.mem_cons_self ..)
    exact stOk_stR t _ (fun x hx => k x (List.mem_cons_of_mem _ hx)) (stOk_stepC h hr.1 hr.2)
theorem SeqOk.kinds {rs : List Run} (h : SeqOk rs) : ∀ r ∈ rs, KindOk r.1 ∧ 1 ≤ r.2 := fun r hr => ⟨(h.2.1 r hr).1, (h.2.1 r hr).2.1⟩
theorem itS_ok {rs : List Run} {st : Option Run} (k : ∀ r ∈ rs, KindOk r.1 ∧ 1 ≤ r.2) (h : StOk st) : ∀ n, StOk (itS rs st n)
  | 0 => h
  | n + 1 => stOk_stR rs _ k (itS_ok k h n)
theorem crs_ok {rs : List Run} {st : Option Run} {n : Nat} (k : ∀ r ∈ rs, KindOk r.1 ∧ 1 ≤ r.2) (h : StOk st) : ∀ s ∈ courseR rs st n, StOk s := fun s hs => by
  obtain ⟨j, _, rfl⟩ := List.mem_map.mp hs
  exact itS_ok k h j
theorem crs_len {rs : List Run} {st : Option Run} {n : Nat} : (courseR rs st n).length = n + 1 := by simp [courseR]
theorem crs_at {rs : List Run} {st : Option Run} {n i : Nat} (h : i ≤ n) : (courseR rs st n)[i]? = some (itS rs st i) := by
  unfold courseR
  rw [List.getElem?_map, List.getElem?_range (by omega)]
  rfl
theorem crs_last {rs : List Run} {st : Option Run} {n : Nat} : (courseR rs st n).getLast?.getD none = itS rs st n := by
  rw [List.getLast?_eq_getElem?, crs_len, show n + 1 - 1 = n by omega, crs_at (Nat.le_refl _)]
  rfl
theorem frR_nonneg {rs : List Run} {st : Option Run} : 0 ≤ frR rs st := by
  cases st with
  | none => exact Int.le_refl _
  | some r =>
    show 0 ≤ (if r.2 < lenR rs ∨ fallR rs r.1 ≤ 0 then 0 else (r.2 - lenR rs) / fallR rs r.1 + 1)
    split
    · exact Int.le_refl _
    · rename_i h
      have h1 : ¬ r.2 < lenR rs := fun z => h (.inl z)
      have h2 : ¬ fallR rs r.1 ≤ 0 := fun z => h (.inr z)
      have := Int.ediv_nonneg (a := r.2 - lenR rs) (b := fallR rs r.1) (by omega) (by omega)
      omega
/-- as long as it only falls -/
theorem fr_room {rs : List Run} {r : Run} {n : Int} (pos : ∀ r ∈ rs, 1 ≤ r.2) (n0 : n ≠ 0) (h0 : 0 ≤ n) (h : n ≤ frR rs (some r)) : lenR rs ≤ r.2 ∧ 0 < fallR rs r.1 ∧ (n - 1) * fallR rs r.1 ≤ r.2 - lenR rs := by
  have e : frR rs (some r) = if r.2 < lenR rs ∨ fallR rs r.1 ≤ 0 then 0 else (r.2 - lenR rs) / fallR rs r.1 + 1 := rfl
  rw [e] at h
  by_cases c : r.2 < lenR rs ∨ fallR rs r.1 ≤ 0
  · rw [if_pos c] at h
    omega
  · rw [if_neg c] at h
    have c1 : ¬ r.2 < lenR rs := fun z => c (.inl z)
    have c2 : ¬ fallR rs r.1 ≤ 0 := fun z => c (.inr z)
    refine ⟨by omega, by omega, ?_⟩
    have h1 : n - 1 ≤ (r.2 - lenR rs) / fallR rs r.1 := by omega
    have h2 := Int.mul_le_mul_of_nonneg_right h1 (show 0 ≤ fallR rs r.1 by omega)
    have h3 := Int.ediv_mul_le (r.2 - lenR rs) (b := fallR rs r.1) (by omega)
    omega
theorem fn_ok {rs : List Run} {st : Option Run} {n : Int} (pos : ∀ r ∈ rs, 1 ≤ r.2) (h : StOk st) (h0 : 0 ≤ n) (hn : n ≤ frR rs st) : StOk (fnR rs st n) := by
  unfold fnR
  by_cases c : n = 0
  · rw [if_pos c]
    exact h
  · rw [if_neg c]
    cases st with
    | none => exact h
    | some r =>
      obtain ⟨f1, f2, f3⟩ := fr_room pos c h0 hn
      have c1 := cntK_pos (k := r.1) pos
      have ef : fallR rs r.1 = lenR rs - 2 * cntK rs r.1 := rfl
      have e : n * fallR rs r.1 = (n - 1) * fallR rs r.1 + fallR rs r.1 := by rw [Int.sub_mul, Int.one_mul]; omega
      show StOk (withR r.1 (r.2 - n * fallR rs r.1))
      intro s es
      unfold withR at es
      split at es
      · cases es
      · cases es
        refine ⟨(h r rfl).1, ?_⟩
        show 1 ≤ r.2 - n * fallR rs r.1
        omega
theorem fr_some {rs : List Run} {st : Option Run} {n : Int} (h0 : n ≠ 0) (h1 : 0 ≤ n) (h : n ≤ frR rs st) : st ≠ none := by
  rintro rfl
  have : n ≤ 0 := h
  omega
section
variable {P : Program} {w : World} {K : PySem.W.Frag} {mg : Str → Option Value} {base : Heap}
/-! adds_growth: slots 0:growth 1:before 2:after 3:kind 4:number -/
abbrev s_adds_growth : Stmt := topS 48
theorem sc_adds_growth : FnScope ["growth", "before", "after", "kind", "number"] ["growth", "before", "after"] (defScope s_adds_growth) := ⟨rfl, rfl, rfl, by decide +kernel, rfl, by decide +kernel, by decide +kernel⟩
def sp_adds_growth : Sp := fun vs H Q _ => ∃ (gv v u : V) (g : Run) (b a : Option Run), vs = [gv, v, u] ∧ StV H gv (some g) ∧ StV H v b ∧ StV H u a ∧ StOk (some g) ∧ StOk b ∧ StOk a ∧ ∀ H', Same H H' → Q (.bl (agB g b a)) H'
theorem ok_adds_growth (D : Df K mg "adds_growth" s_adds_growth) (G_waiting_number : Has P w K mg base 1 "waiting_number" ["state"] sp_waiting_number) : Has P w K mg base 2 "adds_growth" ["growth", "before", "after"] sp_adds_growth := by
  refine has_of D sc_adds_growth (fun _ _ _ _ _ _ us hl => match us, hl with | [_, _, _], _ => rfl) (fun vs H Q E h => ?_) (fun f cdv A outer s₀ H vs Q E hr h => ?_)
  · obtain ⟨_, _, _, _, _, _, rfl, _⟩ := h
    rfl
  · obtain ⟨gv, v, u, g, b, a, rfl, ⟨tg, rfl, htg⟩, hv, hu, og, ob, oa, q⟩ := h
    refine ⟨_, (pss_cons (ps_asg (pv 0) (pg_tup rfl (pgs_cons (pg_name (i := 3) sc_adds_growth.nd rfl (by first | exact Or.inl rfl | exact Or.inr rfl)) (pgs_cons (pg_name (i := 4) sc_adds_growth.nd rfl (by first | exact Or.inl rfl | exact Or.inr rfl)) pgs_nil))))
    (pss_one (ps_ret (pe_and (pe_or (pe_cmpR op_isN (pv 1) pe_non (nomark _)) (pe_one (pe_cmpR op_eq (pe_ix ix_tup (pv 1) pe_int (fun _ _ => rfl)) (pv 3) (nomark _)))) (pe_one (pe_cmpR (op_eqD hr.units) (pv 2) (pe_tup (pa_cons (pv 3) (pa_cons (pe_op op_add (pe_callH G_waiting_number (hr.mono (by omega)) (by rfl) (pa_cons (pv 1) pa_nil)) (pv 4)) pa_nil))) (nomark _))))))), ?_⟩
    refine ⟨_, rfl, tg, _, rfl, .of htg, rfl, _, _, rfl, _, _, rfl, rfl, ?_⟩
    have nb : 0 ≤ numR b → StOk (some (g.1, numR b + g.2)) := fun h r e => by
      cases e
      have := og g rfl
      exact ⟨this.1, by show 1 ≤ numR b + g.2; have := this.2; omega⟩
    cases b with
    | none =>
      cases hv
      refine ⟨_, rfl, rfl, _, rfl, iteP rfl ⟨_, rfl, iteP rfl ?_⟩⟩
      refine ⟨_, rfl, _, rfl, _, rfl, .non, none, rfl, rfl, _, rfl, _, _, rfl, rfl, (by show 2 ≤ sizeLine; decide), fun t nt => ?_⟩
      have q := fun o => q (upd H t o) (same_upd nt)
      rw [show agB g none a = decide (a = some (g.1, numR none + g.2)) from Bool.true_and _] at q
      refine ⟨dOt a, dOt (some (g.1, numR none + g.2)), dp_o (hu.same (same_upd nt)), dp_o (H := upd H t _) ⟨t, rfl, upd_same⟩, shaped_o oa, shaped_o (nb (Int.le_refl _)), ?_⟩
      rw [eqv_o]
      exact q _
    | some r =>
      obtain ⟨tr, rfl, htr⟩ := hv
      refine ⟨_, rfl, rfl, _, rfl, iteN rfl ⟨_, rfl, tr, _, 0, _, rfl, rfl, .of htr, at0, _, rfl, rfl, ?_⟩⟩
      by_cases c : r.1 = g.1
      · refine ⟨_, rfl, iteP (decide_eq_true (by rw [c])) ?_⟩
        refine ⟨_, rfl, _, rfl, _, rfl, .ref tr, some r, rfl, ⟨tr, rfl, .inr htr⟩, _, rfl, _, _, rfl, rfl, (by show 2 ≤ sizeLine; decide), fun t nt => ?_⟩
        have q := fun o => q (upd H t o) (same_upd nt)
        rw [show agB g (some r) a = decide (a = some (g.1, numR (some r) + g.2)) by show (decide (r.1 = g.1) && _) = _; rw [decide_eq_true c]; rfl] at q
        refine ⟨dOt a, dOt (some (g.1, numR (some r) + g.2)), dp_o (hu.same (same_upd nt)), dp_o (H := upd H t _) ⟨t, rfl, upd_same⟩, shaped_o oa, shaped_o (nb (by have := (ob r rfl).2; show 0 ≤ r.2; omega)), ?_⟩
        rw [eqv_o]
        exact q _
      · refine ⟨_, rfl, iteN (decide_eq_false fun z => c (V.str.inj z)) ?_⟩
        have q := q H (Same.refl _)
        rw [show agB g (some r) a = false by show (decide (r.1 = g.1) && _) = false; rw [decide_eq_false c]; rfl] at q
        exact q
end
end UP

set_option Elab.async false
set_option linter.all false
set_option maxRecDepth 100000
set_option maxHeartbeats 4000000
set_option pp.maxSteps 300
namespace UP
open PySem PySem.Spec PyProof.Rows L2
/-! ### xs.count(y) of texts -/
def eqs (k : Str) (v : Value) : Bool := match v with
  | .str z _ => z == k
  | _ => false
def rCntS (K : PySem.W.Frag) : V → List V → Hp → VK → Prop := fun x xs H Q => ∃ (p : Addr) (ns : List Str) (k : Str), x = .ref p ∧ xs = [.str k] ∧ SqL K H p (ns.map V.str) ∧ Q (.int (ns.count k : Nat)) H
theorem strs_vals : ∀ {ns : List Str} {us : List Value}, Vals (ns.map V.str) us → (∀ y ∈ us, ∃ z t, y = .str z t) ∧ ∀ k, us.countP (eqs k) = ns.count k
  | [], _, .nil => ⟨fun y h => (by cases h), fun k => rfl⟩
  | z :: t, _, .cons ⟨tk, e⟩ r => by
    obtain ⟨h1, h2⟩ := strs_vals r
    subst e
    refine ⟨fun y hy => ?_, fun k => ?_⟩
    · rcases List.mem_cons.mp hy with e | e
      · exact ⟨z, tk, e⟩
      · exact h1 y e
    · rw [List.countP_cons, h2 k, List.count_cons]
      rfl
theorem mt_lcountS {X : Cx} : MtR X "list.count" (rCntS X.K) := by
  intro pins s σ H x xs v us Q I rx rxs h
  obtain ⟨p, ns, k, rfl, rfl, hs, q⟩ := h
  cases rx
  obtain ⟨u, rfl, ru⟩ := rxs.one
  obtain ⟨t, rfl⟩ := ru
  obtain ⟨its, rv, ⟨⟨cls, dd, data, sl⟩, n, ho, hc, hdn, hd⟩, hlen⟩ := I.list hs
  simp only at hc hd
  subst hc hd
  obtain ⟨h1, h2⟩ := strs_vals rv
  refine call_meets PySem.F.slot_list_count ⟨_, ho, rfl⟩ PySem.F.entry_list_count (PySem.F.args_list_count_2 _ _)
    (SeqAt.list_countAt p its.toArray n dd sl (.str k t) (eqs k)) ⟨ho, fun y hy => ?_, ?_⟩
  · obtain ⟨z, tz, rfl⟩ := h1 y (by simpa using hy)
    exact SeqAt.EqAt.str_str z tz k t
  have ec : its.toArray.toList.countP (eqs k) = ns.count k := h2 k
  refine ⟨.int (ns.count k : Nat), H, I.tok _, ⟨s.toks, ?_⟩, q⟩
  show Value.int ((its.toArray.toList.countP (eqs k) : Nat) : Int) s.toks = Value.int ((ns.count k : Nat) : Int) s.toks
  rw [ec]
/-! ### effects -/
def fxR (items : List Str) (k : Str) (n : Int) : Option Run := stI items (withR k n)
def chR (items : List Str) (k : Str) : Int := (items.map fun x => if x = k then (1 : Int) else -1).sum
theorem chR_snoc (l : List Str) (x k : Str) : chR (l ++ [x]) k = chR l k + if x = k then 1 else -1 := by
  unfold chR
  rw [List.map_append, List.sum_append]
  simp
theorem chR_cons (l : List Str) (x k : Str) : chR (x :: l) k = (if x = k then 1 else -1) + chR l k := by
  unfold chR
  rw [List.map_cons, List.sum_cons]
theorem chR_cnt (k : Str) : ∀ l : List Str, chR l k = 2 * ((l.count k : Nat) : Int) - (l.length : Int)
  | [] => rfl
  | x :: t => by
    rw [chR_cons, chR_cnt k t, List.count_cons, List.length_cons]
    by_cases e : x = k
    · rw [if_pos e, if_pos (by rw [e]; exact beq_self_eq_true k)]
      omega
    · rw [if_neg e, if_neg (fun z => e (eq_of_beq z))]
      omega
theorem with0 (k : Str) : withR k 0 = none := if_pos rfl
theorem with_pos {k : Str} {n : Int} (h : 0 < n) : withR k n = some (k, n) := if_neg (by omega)
/-- one arrival while none or items of a kind wait -/
theorem step_with {k x : Str} {n : Int} (h : 0 ≤ n) (z : n = 0 → x = k) : stepR (withR k n) x 1 = withR k (n + if x = k then 1 else -1) := by
  by_cases n0 : n = 0
  · have e := z n0
    subst n0
    rw [with0, if_pos e, e]
    rfl
  · rw [with_pos (by omega)]
    by_cases e : x = k
    · rw [step_same (r := (k, n)) e.symm, if_pos e, with_pos (by omega), e]
    · rw [step_other (r := (k, n)) (fun q => e q.symm), if_neg e]
      by_cases h1 : 0 < n - 1
      · rw [if_pos (show 0 < (k, n).2 - 1 from h1), with_pos (by omega)]
        rfl
      · rw [if_neg (show ¬ 0 < (k, n).2 - 1 from h1), if_pos (show (k, n).2 - 1 = 0 by show n - 1 = 0; omega), show n + -1 = 0 by omega, with0]
theorem fx_far (k : Str) : ∀ (l : List Str) (n : Int), (l.length : Int) ≤ n → stI l (withR k n) = withR k (n + chR l k)
  | [], n, _ => by
    show withR k n = withR k (n + 0)
    rw [Int.add_zero]
  | x :: t, n, h => by
    rw [List.length_cons] at h
    have n1 : 1 ≤ n := by omega
    show stI t (stepR (withR k n) x 1) = _
    rw [step_with (by omega) (fun z => by omega), fx_far k t _ (by split <;> omega), chR_cons, Int.add_assoc]
theorem stI_drop {l : List Str} {i : Nat} {x : Str} (h : l[i]? = some x) (s : Option Run) : stI (l.drop i) s = stI (l.drop (i + 1)) (stepR s x 1) := by
  obtain ⟨hi, e⟩ := List.getElem?_eq_some_iff.mp h
  rw [List.drop_eq_getElem_cons hi, e]
  rfl
theorem stI_split (l : List Str) (i : Nat) (s : Option Run) : stI l s = stI (l.drop i) (stI (l.take i) s) := by
  rw [← stI_app, List.take_append_drop]
theorem stI_pos : ∀ (l : List Str) (s : Option Run), PosO s → PosO (stI l s)
  | [], _, h => h
  | x :: t, s, h => stI_pos t _ (stepR_pos h (by decide))
theorem stOk_stI : ∀ (l : List Str) (s : Option Run), (∀ k ∈ l, KindOk k) → StOk s → StOk (stI l s)
  | [], _, _, h => h
  | x :: t, s, k, h => stOk_stI t _ (fun y hy => k y (List.mem_cons_of_mem _ hy)) (stOk_step h (k x (List.mem_cons_self ..)))
theorem pos_with {k : Str} {n : Int} (h : 0 ≤ n) : PosO (withR k n) := fun r e => by
  unfold withR at e
  split at e
  · cases e
  · cases e
    show 1 ≤ n
    omega
theorem ok_with {k : Str} {n : Int} (kk : KindOk k) (h : 0 ≤ n) : StOk (withR k n) := fun r e => by
  unfold withR at e
  split at e
  · cases e
  · cases e
    exact ⟨kk, by show 1 ≤ n; omega⟩
/-- while effects are listed: L of them are known, all others are shifts so far -/
structure Low (items : List Str) (k : Str) (i L : Nat) : Prop where
  pos : 1 ≤ L
  le : L ≤ i + 1
  far : ∀ n : Int, (L : Int) ≤ n → 0 < n + chR (items.take i) k ∧ stI (items.take i) (withR k n) = withR k (n + chR (items.take i) k)
theorem Low.start (items : List Str) (k : Str) : Low items k 0 1 := ⟨Nat.le_refl _, Nat.le_refl _, fun n h => by
  rw [List.take_zero]
  show 0 < n + 0 ∧ withR k n = withR k (n + 0)
  rw [Int.add_zero]
  exact ⟨by omega, rfl⟩⟩
theorem take_step {items : List Str} {i : Nat} {x : Str} (h : items[i]? = some x) (s : Option Run) : stI (items.take (i + 1)) s = stepR (stI (items.take i) s) x 1 := by
  rw [take_snoc h, stI_app]
  rfl
theorem Low.stay {items : List Str} {k : Str} {i L : Nat} {x : Str} (h : Low items k i L) (hx : items[i]? = some x) (ne : chR (items.take (i + 1)) k ≠ -(L : Int)) : Low items k (i + 1) L := by
  have f := (h.far L (Int.le_refl _)).1
  have e : chR (items.take (i + 1)) k = chR (items.take i) k + if x = k then 1 else -1 := by rw [take_snoc hx, chR_snoc]
  rw [e] at ne
  refine ⟨h.pos, by have := h.le; omega, fun n hn => ?_⟩
  obtain ⟨f1, f2⟩ := h.far n hn
  rw [e, take_step hx, f2, step_with (by omega) (fun z => by omega), Int.add_assoc]
  refine ⟨?_, rfl⟩
  split at ne <;> split <;> first | omega | contradiction
theorem Low.more {items : List Str} {k : Str} {i L : Nat} {x : Str} (h : Low items k i L) (hx : items[i]? = some x) (eq : chR (items.take (i + 1)) k = -(L : Int)) : Low items k (i + 1) (L + 1) ∧ fxR items k L = stI (items.drop (i + 1)) none := by
  have e : chR (items.take (i + 1)) k = chR (items.take i) k + if x = k then 1 else -1 := by rw [take_snoc hx, chR_snoc]
  have e2 := e
  rw [eq] at e2
  refine ⟨⟨by omega, by have := h.le; omega, fun n hn => ?_⟩, ?_⟩
  · obtain ⟨f1, f2⟩ := h.far n (by omega)
    rw [e, take_step hx, f2, step_with (by omega) (fun z => by omega), Int.add_assoc]
    exact ⟨by omega, rfl⟩
  · obtain ⟨f1, f2⟩ := h.far L (Int.le_refl _)
    unfold fxR
    rw [stI_split items (i + 1), take_step hx, f2, step_with (by omega) (fun z => by omega), show (L : Int) + chR (items.take i) k + (if x = k then 1 else -1) = 0 by omega, with0]
/-- the list of effects is right -/
structure EffOk (items : List Str) (k : Str) (es : List (Option Run)) : Prop where
  len : 1 ≤ es.length ∧ es.length ≤ items.length + 1
  val : ∀ n, n < es.length → es[n]? = some (fxR items k n)
  far : ∃ sh : Int, ∀ n : Int, (es.length : Int) - 1 ≤ n → 0 ≤ n + sh ∧ fxR items k n = withR k (n + sh)
end UP

set_option Elab.async false
set_option linter.all false
set_option maxRecDepth 100000
set_option maxHeartbeats 4000000
set_option pp.maxSteps 500
namespace UP
open PySem PySem.Spec PyProof.Rows L2
/-! ### the rounds one by one -/
theorem it_len : ∀ {rs : List Run}, (∀ r ∈ rs, 1 ≤ r.2) → ((itR rs).length : Int) = lenR rs
  | [], _ => rfl
  | r :: l, h => by
    have h1 := h r (List.mem_cons_self ..)
    have h2 := it_len (rs := l) fun x hx => h x (List.mem_cons_of_mem _ hx)
    show (((List.replicate r.2.toNat r.1 ++ itR l).length : Nat) : Int) = lenR (r :: l)
    rw [List.length_append, List.length_replicate, lenR_cons]
    omega
theorem ch_fall {rs : List Run} (pos : ∀ r ∈ rs, 1 ≤ r.2) (k : Str) : chR (itR rs) k = -fallR rs k := by
  rw [chR_cnt, it_len pos, ← cntK_it k pos]
  show _ = -(lenR rs - 2 * cntK rs k)
  omega
theorem len_nonneg {rs : List Run} (pos : ∀ r ∈ rs, 1 ≤ r.2) : 0 ≤ lenR rs := by
  rw [← it_len pos]
  omega
/-- far away a round is a shift -/
theorem far_round {rs : List Run} {k : Str} {n : Int} (pos : ∀ r ∈ rs, 1 ≤ r.2) (h : lenR rs ≤ n) : stR rs (withR k n) = withR k (n - fallR rs k) := by
  have l0 := len_nonneg pos
  rw [st_items _ _ (pos_with (by omega)) pos, fx_far k _ _ (by rw [it_len pos]; exact h), ch_fall pos]
  rfl
theorem itS_add (rs : List Run) (st : Option Run) (i : Nat) : ∀ j, itS rs st (i + j) = itS rs (itS rs st i) j
  | 0 => rfl
  | j + 1 => by
    show stR rs (itS rs st (i + j)) = stR rs (itS rs (itS rs st i) j)
    rw [itS_add rs st i j]
theorem fn_form {rs : List Run} {r : Run} {n : Int} (h : 1 ≤ r.2) : fnR rs (some r) n = withR r.1 (r.2 - n * fallR rs r.1) := by
  unfold fnR
  by_cases c : n = 0
  · rw [if_pos c, c, Int.zero_mul, Int.sub_zero, with_pos (by omega)]
  · rw [if_neg c]
/-- as long as a state falls its rounds are known -/
theorem fall_it {rs : List Run} {st : Option Run} (pos : ∀ r ∈ rs, 1 ≤ r.2) (so : PosO st) : ∀ f : Nat, (f : Int) ≤ frR rs st → itS rs st f = fnR rs st f
  | 0, _ => rfl
  | f + 1, h => by
    cases st with
    | none =>
      have : ((f + 1 : Nat) : Int) ≤ 0 := h
      omega
    | some r =>
      have r1 := so r rfl
      have ih := fall_it pos so f (by omega)
      obtain ⟨_, _, h3⟩ := fr_room (n := ((f + 1 : Nat) : Int)) pos (by omega) (by omega) h
      show stR rs (itS rs (some r) f) = _
      rw [ih, fn_form r1, fn_form r1]
      have e : ((f + 1 : Nat) : Int) - 1 = (f : Int) := by omega
      rw [e] at h3
      rw [far_round pos (by omega)]
      congr 1
      rw [show ((f + 1 : Nat) : Int) = (f : Int) + 1 by omega, Int.add_mul, Int.one_mul]
      omega
/-- few items wait, or they don't become fewer -/
def Low0 (rs : List Run) (s : Option Run) : Prop := ∀ r, s = some r → r.2 < lenR rs ∨ fallR rs r.1 ≤ 0
theorem fallen_low {rs : List Run} {st : Option Run} (pos : ∀ r ∈ rs, 1 ≤ r.2) (so : PosO st) : Low0 rs (fnR rs st (frR rs st)) := by
  cases st with
  | none =>
    intro r e
    have : fnR rs none (frR rs none) = none := rfl
    rw [this] at e
    cases e
  | some r =>
    have r1 := so r rfl
    rw [fn_form r1]
    intro s es
    have fe : frR rs (some r) = if r.2 < lenR rs ∨ fallR rs r.1 ≤ 0 then 0 else (r.2 - lenR rs) / fallR rs r.1 + 1 := rfl
    by_cases c : r.2 < lenR rs ∨ fallR rs r.1 ≤ 0
    · rw [fe, if_pos c, Int.zero_mul, Int.sub_zero, with_pos (by omega)] at es
      cases es
      exact c
    · rw [fe, if_neg c] at es
      have c1 : ¬ r.2 < lenR rs := fun z => c (.inl z)
      have c2 : ¬ fallR rs r.1 ≤ 0 := fun z => c (.inr z)
      have h1 := Int.emod_add_mul_ediv (r.2 - lenR rs) (fallR rs r.1)
      have h2 := Int.emod_lt_of_pos (r.2 - lenR rs) (show 0 < fallR rs r.1 by omega)
      have h4 : ((r.2 - lenR rs) / fallR rs r.1 + 1) * fallR rs r.1 = fallR rs r.1 * ((r.2 - lenR rs) / fallR rs r.1) + fallR rs r.1 := by rw [Int.add_mul, Int.one_mul, Int.mul_comm]
      unfold withR at es
      split at es
      · cases es
      · cases es
        left
        show r.2 - ((r.2 - lenR rs) / fallR rs r.1 + 1) * fallR rs r.1 < lenR rs
        omega
theorem least_of {p : Nat → Prop} : ∀ {n : Nat}, p n → ∃ k, k ≤ n ∧ p k ∧ ∀ i, i < k → ¬ p i
  | 0, h => ⟨0, Nat.le_refl _, h, fun i hi => absurd hi (Nat.not_lt_zero _)⟩
  | n + 1, h => by
    by_cases c : ∃ j, j ≤ n ∧ p j
    · obtain ⟨j, hj, pj⟩ := c
      obtain ⟨k, h1, h2, h3⟩ := least_of (n := j) pj
      exact ⟨k, by omega, h2, h3⟩
    · exact ⟨n + 1, Nat.le_refl _, h, fun i hi pi => c ⟨i, by omega, pi⟩⟩
/-! with growth -/
def sgR (k : Str) : Option Run → Int
  | none => 0
  | some r => if r.1 = k then r.2 else -r.2
theorem sg_step {k x : Str} {s : Option Run} (h : PosO s) : sgR k s + (if x = k then 1 else -1) ≤ sgR k (stepR s x 1) := by
  cases s with
  | none =>
    show 0 + (if x = k then (1 : Int) else -1) ≤ (if x = k then (1 : Int) else -1)
    omega
  | some r =>
    have r1 := h r rfl
    by_cases e : r.1 = x
    · rw [step_same e]
      show sgR k (some r) + _ ≤ if x = k then r.2 + 1 else -(r.2 + 1)
      show (if r.1 = k then r.2 else -r.2) + _ ≤ _
      rw [e]
      split <;> omega
    · rw [step_other e]
      show (if r.1 = k then r.2 else -r.2) + _ ≤ _
      by_cases c : 0 < r.2 - 1
      · rw [if_pos c]
        show _ ≤ (if r.1 = k then r.2 - 1 else -(r.2 - 1))
        by_cases c1 : r.1 = k
        · rw [if_pos c1, if_pos c1, if_neg (fun z => e (c1.trans z.symm))]
          omega
        · rw [if_neg c1, if_neg c1]
          split <;> omega
      · rw [if_neg c, if_pos (show r.2 - 1 = 0 by omega)]
        show _ ≤ (0 : Int)
        by_cases c1 : r.1 = k
        · rw [if_pos c1, if_neg (fun z => e (c1.trans z.symm))]
          omega
        · rw [if_neg c1]
          split <;> omega
theorem sg_stI {k : Str} : ∀ (l : List Str) (s : Option Run), PosO s → sgR k s + chR l k ≤ sgR k (stI l s)
  | [], s, _ => by
    show sgR k s + 0 ≤ sgR k s
    omega
  | x :: t, s, h => by
    have h1 := sg_step (k := k) (x := x) h
    have h2 := sg_stI (k := k) t (stepR s x 1) (stepR_pos h (by decide))
    rw [chR_cons]
    show _ ≤ sgR k (stI t (stepR s x 1))
    omega
theorem sg_round {rs : List Run} {k : Str} {s : Option Run} (pos : ∀ r ∈ rs, 1 ≤ r.2) (h : PosO s) : sgR k s - fallR rs k ≤ sgR k (stR rs s) := by
  rw [st_items _ _ h pos]
  have := sg_stI (k := k) (itR rs) s h
  rw [ch_fall pos] at this
  omega
theorem itS_pos {rs : List Run} {s : Option Run} (pos : ∀ r ∈ rs, 1 ≤ r.2) (h : PosO s) : ∀ n, PosO (itS rs s n)
  | 0 => h
  | n + 1 => by
    show PosO (stR rs (itS rs s n))
    rw [st_items _ _ (itS_pos pos h n) pos]
    exact stI_pos _ _ (itS_pos pos h n)
theorem sg_it {rs : List Run} {k : Str} {s : Option Run} (pos : ∀ r ∈ rs, 1 ≤ r.2) (h : PosO s) (f : 0 ≤ -fallR rs k) : ∀ n : Nat, sgR k s + (n : Int) * (-fallR rs k) ≤ sgR k (itS rs s n)
  | 0 => by
    show sgR k s + ((0 : Nat) : Int) * _ ≤ sgR k s
    rw [show ((0 : Nat) : Int) = 0 from rfl, Int.zero_mul]
    omega
  | n + 1 => by
    have h1 := sg_it pos h f n
    have h2 := sg_round (k := k) pos (itS_pos pos h n)
    show _ ≤ sgR k (stR rs (itS rs s n))
    rw [show ((n + 1 : Nat) : Int) = (n : Int) + 1 by omega, Int.add_mul, Int.one_mul]
    omega
end UP

set_option Elab.async false
set_option linter.all false
set_option maxRecDepth 100000
set_option maxHeartbeats 4000000
set_option pp.maxSteps 500
namespace UP
open PySem PySem.Spec PyProof.Rows L2
/-- the state from which a course of n rounds is followed -/
def ff (rs : List Run) (st : Option Run) (n : Int) : Int := if frR rs st < n then frR rs st else n
structure AftOk (rs : List Run) (st : Option Run) (n : Int) (k : Nat) : Prop where
  ce : CEnd rs (grR rs) (n - ff rs st n) (fnR rs st (ff rs st n)) k
  few : k ≤ 400000
  ret : grR rs = none → (k : Int) < n - ff rs st n → startR (courseR rs (fnR rs st (ff rs st n)) k) < k
  gro : grR rs ≠ none → (k : Int) < n - ff rs st n → itS rs (fnR rs st (ff rs st n)) k ≠ none
def aftR (rs : List Run) (st : Option Run) (n : Int) (k : Nat) : Option Run := contR (courseR rs (fnR rs st (ff rs st n)) k) (grR rs) (n - ff rs st n)
theorem ff_bd {rs : List Run} {st : Option Run} {n : Int} (h : 0 ≤ n) : 0 ≤ ff rs st n ∧ ff rs st n ≤ n ∧ ff rs st n ≤ frR rs st := by
  have := frR_nonneg (rs := rs) (st := st)
  unfold ff
  split <;> omega
theorem gr_small {rs : List Run} {g : Run} (pos : ∀ r ∈ rs, 1 ≤ r.2) (l : lenR rs ≤ 400) (h : grR rs = some g) : g.2.natAbs < 2 ^ 10 := by
  obtain ⟨_, h2, h3⟩ := gr_is h
  have := cntK_le (k := g.1) pos
  omega
theorem gr_ok {rs : List Run} (ok : SeqOk rs) : StOk (grR rs) := fun g h => by
  obtain ⟨h1, _, h3⟩ := gr_is h
  obtain ⟨r, hr, e⟩ := List.mem_map.mp h1
  rw [← e]
  exact ⟨(ok.2.1 r hr).1, h3⟩
theorem gr_fall {rs : List Run} {g : Run} (h : grR rs = some g) : fallR rs g.1 = -g.2 ∧ 1 ≤ g.2 := by
  obtain ⟨_, h2, h3⟩ := gr_is h
  refine ⟨?_, h3⟩
  show lenR rs - 2 * cntK rs g.1 = -g.2
  omega
theorem other_fall {rs : List Run} {g : Run} {k : Str} (pos : ∀ r ∈ rs, 1 ≤ r.2) (h : grR rs = some g) (n : k ≠ g.1) : 0 < fallR rs k := by
  obtain ⟨h1, h2⟩ := gr_fall h
  have h3 := cntK_two n pos
  have e1 : fallR rs g.1 = lenR rs - 2 * cntK rs g.1 := rfl
  have e2 : fallR rs k = lenR rs - 2 * cntK rs k := rfl
  omega
theorem none_fall {rs : List Run} {k : Str} (pos : ∀ r ∈ rs, 1 ≤ r.2) (h : grR rs = none) : 0 ≤ fallR rs k := by
  have e2 : fallR rs k = lenR rs - 2 * cntK rs k := rfl
  refine Classical.byContradiction fun c => ?_
  have m : lenR rs < 2 * cntK rs k := by omega
  have hk : k ∈ rs.map (·.1) := by
    refine Classical.byContradiction fun z => ?_
    have c0 : cntK rs k = 0 := by
      unfold cntK
      rw [List.filter_eq_nil_iff.mpr fun r hr => by
        intro e
        exact z (List.mem_map.mpr ⟨r, hr, of_decide_eq_true e⟩)]
      rfl
    have := len_nonneg pos
    omega
  rw [gr_some pos hk m] at h
  cases h
theorem gf_of {rs : List Run} {g : Run} {s : Option Run} (l1 : 1 ≤ lenR rs) (ps : PosO s) (h : lenR rs ≤ sgR g.1 s) : gfB rs (some g) s = true := by
  cases s with
  | none =>
    have h : lenR rs ≤ 0 := h
    omega
  | some r =>
    have r1 := ps r rfl
    have h : lenR rs ≤ if r.1 = g.1 then r.2 else -r.2 := h
    by_cases c : r.1 = g.1
    · rw [if_pos c] at h
      show (decide (r.1 = g.1) && decide (lenR rs ≤ r.2)) = true
      rw [decide_eq_true c, decide_eq_true h]
      rfl
    · rw [if_neg c] at h
      omega
theorem gf_is {rs : List Run} {g : Run} {s : Option Run} (h : gfB rs (some g) s = true) : ∃ m, s = some (g.1, m) ∧ lenR rs ≤ m := by
  cases s with
  | none => cases h
  | some r =>
    have h : (decide (r.1 = g.1) && decide (lenR rs ≤ r.2)) = true := h
    rw [Bool.and_eq_true] at h
    have h1 := of_decide_eq_true h.1
    exact ⟨r.2, by rw [← h1], of_decide_eq_true h.2⟩
theorem course_grow {rs : List Run} {g : Run} {s : Option Run} {N : Int} (pos : ∀ r ∈ rs, 1 ≤ r.2) (l4 : lenR rs ≤ 400) (hg : grR rs = some g) (ps : PosO s) (low : Low0 rs s) (h0 : 0 ≤ N) :
    ∃ k, k ≤ 800 ∧ CEnd rs (some g) N s k ∧ ((k : Int) < N → ∃ m, itS rs s k = some (g.1, m) ∧ lenR rs ≤ m) := by
  obtain ⟨gf, g1⟩ := gr_fall hg
  have cl := cntK_le (k := g.1) pos
  have ef : fallR rs g.1 = lenR rs - 2 * cntK rs g.1 := rfl
  have l1 : 1 ≤ lenR rs := by
    have := cntK_pos (k := g.1) pos
    omega
  have lo : -lenR rs < sgR g.1 s := by
    cases s with
    | none => show -lenR rs < 0; omega
    | some r =>
      have r1 := ps r rfl
      show -lenR rs < if r.1 = g.1 then r.2 else -r.2
      by_cases c : r.1 = g.1
      · rw [if_pos c]; omega
      · rw [if_neg c]
        have := other_fall pos hg c
        rcases low r rfl with h | h <;> omega
  have sg := sg_it (k := g.1) pos ps (by omega)
  rw [gf] at sg
  have up : ∀ i : Nat, sgR g.1 s + (i : Int) ≤ sgR g.1 (itS rs s i) := fun i => by
    have h1 := sg i
    have h2 : (i : Int) * 1 ≤ (i : Int) * - -g.2 := Int.mul_le_mul_of_nonneg_left (by omega) (by omega)
    rw [Int.mul_one] at h2
    omega
  have inc : ∀ i j : Nat, j < i → itS rs s j ≠ itS rs s i := fun i j h e => by
    have h1 := sg_it (k := g.1) (s := itS rs s j) pos (itS_pos pos ps j) (by omega) (i - j)
    rw [← itS_add, show j + (i - j) = i by omega, ← e, gf] at h1
    have h2 : ((i - j : Nat) : Int) * 1 ≤ ((i - j : Nat) : Int) * - -g.2 := Int.mul_le_mul_of_nonneg_left (by omega) (by omega)
    rw [Int.mul_one] at h2
    omega
  obtain ⟨k, k8, pk, nk⟩ := least_of (p := fun i => N < (i : Int) + 1 ∨ gfB rs (some g) (itS rs s i) = true) (n := 800) (.inr (gf_of l1 (itS_pos pos ps _) (by
    have := up 800
    omega)))
  refine ⟨k, k8, ⟨fun i hi => ?_, pk.imp id .inl⟩, fun hk => ?_⟩
  · have z := nk i hi
    refine ⟨?_, ?_, fun j hj => inc i j hj⟩
    · exact Classical.byContradiction fun c => z (.inl (by omega))
    · exact Bool.eq_false_iff.mpr fun c => z (.inr c)
  · rcases pk with c | c
    · omega
    · exact gf_is c
/-! without growth -/
theorem nodup_subR {α : Type} [DecidableEq α] : ∀ (l B : List α), l.Nodup → (∀ x ∈ l, x ∈ B) → l.length ≤ B.length
  | [], _, _, _ => Nat.zero_le _
  | x :: l, B, nd, sub => by
    obtain ⟨n1, n2⟩ := List.nodup_cons.mp nd
    have hx := sub x List.mem_cons_self
    have h1 := nodup_subR l (B.erase x) n2 fun y hy => (List.mem_erase_of_ne (fun e => n1 (by rw [← e]; exact hy))).mpr (sub y (List.mem_cons_of_mem _ hy))
    have h2 := List.length_erase_of_mem hx
    have h3 := List.length_pos_of_mem hx
    rw [List.length_cons]
    omega
/-- the states with few waiting items of these kinds -/
def boxR (ks : List Str) (m : Nat) : List (Option Run) := none :: ks.flatMap fun k => (List.range m).map fun (i : Nat) => (some (k, (i : Int) + 1) : Option Run)
theorem box_len (ks : List Str) (m : Nat) : (boxR ks m).length = 1 + ks.length * m := by
  unfold boxR
  rw [List.length_cons]
  have : (ks.flatMap fun k => (List.range m).map fun (i : Nat) => (some (k, (i : Int) + 1) : Option Run)).length = ks.length * m := by
    induction ks with
    | nil => simp
    | cons k t ih => rw [List.flatMap_cons, List.length_append, ih, List.length_map, List.length_range, List.length_cons, Nat.add_mul, Nat.one_mul, Nat.add_comm]
  omega
theorem box_mem {ks : List Str} {m : Nat} {s : Option Run} (h : ∀ r, s = some r → r.1 ∈ ks ∧ 1 ≤ r.2 ∧ r.2 ≤ (m : Int)) : s ∈ boxR ks m := by
  cases s with
  | none => exact List.mem_cons_self ..
  | some r =>
    obtain ⟨h1, h2, h3⟩ := h r rfl
    refine List.mem_cons_of_mem _ (List.mem_flatMap.mpr ⟨r.1, h1, List.mem_map.mpr ⟨(r.2 - 1).toNat, List.mem_range.mpr (by omega), ?_⟩⟩)
    rw [show (((r.2 - 1).toNat : Nat) : Int) + 1 = r.2 by omega]
/-- what a round of few items does to a state: its kind and its number -/
theorem stI_box {ks : List Str} : ∀ (l : List Str) (s : Option Run) (m : Int), (∀ x ∈ l, x ∈ ks) → PosO s → (∀ r, s = some r → r.1 ∈ ks ∧ r.2 ≤ m) → 0 ≤ m → ∀ r, stI l s = some r → r.1 ∈ ks ∧ r.2 ≤ m + (l.length : Int)
  | [], s, m, _, _, h, m0 => fun r e => by
    have := h r e
    exact ⟨this.1, by show r.2 ≤ m + 0; omega⟩
  | x :: t, s, m, hk, hp, h, m0 => fun r e => by
    have hx := hk x (List.mem_cons_self ..)
    have := stI_box t (stepR s x 1) (m + 1) (fun y hy => hk y (List.mem_cons_of_mem _ hy)) (stepR_pos hp (by decide)) (fun q eq => by
      cases s with
      | none =>
        cases eq
        exact ⟨hx, by show (1 : Int) ≤ m + 1; omega⟩
      | some p =>
        obtain ⟨p1, p2⟩ := h p rfl
        have p3 := hp p rfl
        by_cases c : p.1 = x
        · rw [step_same c] at eq
          cases eq
          exact ⟨hx, by show p.2 + 1 ≤ m + 1; omega⟩
        · rw [step_other c] at eq
          split at eq
          · cases eq
            exact ⟨p1, by show p.2 - 1 ≤ m + 1; omega⟩
          · split at eq
            · cases eq
            · cases eq
              exact ⟨hx, by show -(p.2 - 1) ≤ m + 1; omega⟩) (by omega) r e
    refine ⟨this.1, ?_⟩
    have h2 := this.2
    rw [List.length_cons]
    omega
end UP

set_option Elab.async false
set_option linter.all false
set_option maxRecDepth 100000
set_option maxHeartbeats 4000000
set_option pp.maxSteps 500
namespace UP
open PySem PySem.Spec PyProof.Rows L2
theorem runs_le : ∀ {rs : List Run}, (∀ r ∈ rs, 1 ≤ r.2) → (rs.length : Int) ≤ lenR rs
  | [], _ => Int.le_refl _
  | r :: l, h => by
    have h1 := h r (List.mem_cons_self ..)
    have h2 := runs_le (rs := l) fun x hx => h x (List.mem_cons_of_mem _ hx)
    rw [lenR_cons, List.length_cons]
    omega
theorem with_self {r : Run} (h : 1 ≤ r.2) : withR r.1 r.2 = some r := with_pos (by omega)
/-- without growth few items stay few -/
theorem stay_box {rs : List Run} {ks : List Str} {s : Option Run} (pos : ∀ r ∈ rs, 1 ≤ r.2) (hg : grR rs = none) (hk : ∀ r ∈ rs, r.1 ∈ ks) (ps : PosO s) (h : ∀ r, s = some r → r.1 ∈ ks ∧ r.2 ≤ 2 * lenR rs) : ∀ r, stR rs s = some r → r.1 ∈ ks ∧ r.2 ≤ 2 * lenR rs := by
  intro q eq
  have l0 := len_nonneg pos
  have kit : ∀ x ∈ itR rs, x ∈ ks := fun x hx => by
    obtain ⟨r, hr, e⟩ := List.mem_map.mp ((kinds_it pos).mp hx)
    rw [← e]
    exact hk r hr
  cases s with
  | none =>
    rw [st_items _ _ ps pos] at eq
    have := stI_box (ks := ks) (itR rs) none 0 kit ps (fun r e => by cases e) (Int.le_refl _) q eq
    rw [it_len pos] at this
    exact ⟨this.1, by have := this.2; omega⟩
  | some r =>
    obtain ⟨h1, h2⟩ := h r rfl
    have r1 := ps r rfl
    by_cases c : lenR rs ≤ r.2
    · rw [← with_self r1, far_round pos c] at eq
      have nf := none_fall (k := r.1) pos hg
      unfold withR at eq
      split at eq
      · cases eq
      · cases eq
        exact ⟨h1, by show r.2 - fallR rs r.1 ≤ _; omega⟩
    · rw [st_items _ _ ps pos] at eq
      have := stI_box (ks := ks) (itR rs) (some r) (lenR rs - 1) kit ps (fun q e => by cases e; exact ⟨h1, by omega⟩) (by omega) q eq
      rw [it_len pos] at this
      exact ⟨this.1, by have := this.2; omega⟩
theorem course_stay {rs : List Run} {s : Option Run} {N : Int} (pos : ∀ r ∈ rs, 1 ≤ r.2) (l4 : lenR rs ≤ 400) (hg : grR rs = none) (ps : PosO s) (low : Low0 rs s) :
    ∃ k, k ≤ 400000 ∧ CEnd rs none N s k := by
  have fin : (∃ i, i ≤ 400000 ∧ ∃ j, j < i ∧ itS rs s j = itS rs s i) → ∃ k, k ≤ 400000 ∧ CEnd rs none N s k := by
    rintro ⟨i, hi, hr⟩
    obtain ⟨k, ki, pk, nk⟩ := least_of (p := fun i => N < (i : Int) + 1 ∨ ∃ j, j < i ∧ itS rs s j = itS rs s i) (n := i) (.inr hr)
    refine ⟨k, by omega, ⟨fun i hi => ⟨?_, rfl, fun j hj e => nk i hi (.inr ⟨j, hj, e⟩)⟩, pk.imp id .inr⟩⟩
    exact Classical.byContradiction fun c => nk i hi (.inl (by omega))
  by_cases fx : ∃ r, s = some r ∧ lenR rs ≤ r.2
  · obtain ⟨r, rfl, hr⟩ := fx
    refine fin ⟨1, by decide, 0, by decide, ?_⟩
    have nf := none_fall (k := r.1) pos hg
    have r1 := ps r rfl
    have f0 : fallR rs r.1 = 0 := by
      rcases low r rfl with h | h <;> omega
    show some r = stR rs (some r)
    have := far_round (k := r.1) pos hr
    rw [with_self r1, f0, Int.sub_zero, with_self r1] at this
    exact this.symm
  · refine fin ?_
    have inv : ∀ i, ∀ r, itS rs s i = some r → r.1 ∈ (rs.map (·.1) ++ (s.map (·.1)).toList) ∧ r.2 ≤ 2 * lenR rs := by
      intro i
      induction i with
      | zero =>
        intro r e
        have e : s = some r := e
        have : r.2 < lenR rs := Classical.byContradiction fun c => fx ⟨r, e, by omega⟩
        have := len_nonneg pos
        rw [e]
        exact ⟨List.mem_append_right _ (by simp), by omega⟩
      | succ i ih => exact stay_box pos hg (fun r hr => List.mem_append_left _ (List.mem_map.mpr ⟨r, hr, rfl⟩)) (itS_pos pos ps i) ih
    have bx : ∀ i, itS rs s i ∈ boxR (rs.map (·.1) ++ (s.map (·.1)).toList) 800 := fun i => box_mem fun r e => ⟨(inv i r e).1, itS_pos pos ps i r e, by have := (inv i r e).2; omega⟩
    have bl : (boxR (rs.map (·.1) ++ (s.map (·.1)).toList) 800).length < 400000 := by
      rw [box_len, List.length_append, List.length_map]
      have h1 := runs_le pos
      have h2 : (s.map (·.1)).toList.length ≤ 1 := by cases s <;> simp
      omega
    refine Classical.byContradiction fun no => ?_
    have nd : ((List.range 400001).map (itS rs s)).Nodup := List.pairwise_map.mpr (List.Pairwise.imp_of_mem (fun {a b} _ hb c e => no ⟨b, by have := List.mem_range.mp hb; omega, a, c, e⟩) List.pairwise_lt_range)
    have := nodup_subR _ _ nd fun x hx => by
      obtain ⟨i, _, rfl⟩ := List.mem_map.mp hx
      exact bx i
    rw [List.length_map, List.length_range] at this
    omega
theorem start_at {rs : List Run} {s : Option Run} {N : Int} {k j : Nat} {g : Option Run} (ce : CEnd rs g N s k) (hj : j < k) (e : itS rs s j = itS rs s k) : startR (courseR rs s k) = j := by
  unfold startR
  have lt : j < (courseR rs s k).length := by rw [crs_len]; omega
  have at' : ∀ i (h : i < (courseR rs s k).length), (courseR rs s k)[i] = itS rs s i := fun i h => by
    have := crs_at (rs := rs) (st := s) (n := k) (i := i) (by rw [crs_len] at h; omega)
    rw [List.getElem?_eq_getElem h] at this
    exact Option.some.inj this
  rw [List.findIdx_eq lt]
  refine ⟨?_, fun i hi => ?_⟩
  · rw [at', crs_last]
    exact decide_eq_true e
  · rw [at', crs_last]
    refine decide_eq_false fun z => (ce.go j hj).2.2 i hi ?_
    rw [z, e]
/-- a course that has come back goes on as before -/
theorem itS_per {rs : List Run} {s : Option Run} {j k : Nat} (hj : j < k) (e : itS rs s j = itS rs s k) : ∀ (q m : Nat), itS rs s (j + m + q * (k - j)) = itS rs s (j + m)
  | 0, m => by rw [Nat.zero_mul, Nat.add_zero]
  | q + 1, m => by
    rw [show j + m + (q + 1) * (k - j) = k + (m + q * (k - j)) by rw [Nat.add_mul, Nat.one_mul]; omega, itS_add, ← e, ← itS_add, show j + (m + q * (k - j)) = j + m + q * (k - j) by omega]
    exact itS_per hj e q m
theorem itS_grow {rs : List Run} {g : Run} (pos : ∀ r ∈ rs, 1 ≤ r.2) (hg : grR rs = some g) : ∀ (j : Nat) (m : Int), lenR rs ≤ m → 1 ≤ m → itS rs (some (g.1, m)) j = some (g.1, m + (j : Int) * g.2)
  | 0, m, _, _ => by
    show some (g.1, m) = _
    rw [show ((0 : Nat) : Int) = 0 from rfl, Int.zero_mul, Int.add_zero]
  | j + 1, m, h, m1 => by
    obtain ⟨gf, g1⟩ := gr_fall hg
    have jg : 0 ≤ (j : Int) * g.2 := Int.mul_nonneg (by omega) (by omega)
    show stR rs (itS rs (some (g.1, m)) j) = _
    rw [itS_grow pos hg j m h m1, ← with_self (r := (g.1, m + (j : Int) * g.2)) (by show 1 ≤ m + (j : Int) * g.2; omega)]
    show stR rs (withR g.1 (m + (j : Int) * g.2)) = _
    rw [far_round pos (by omega), gf, with_pos (by omega), show ((j + 1 : Nat) : Int) = (j : Int) + 1 by omega, Int.add_mul, Int.one_mul]
    congr 2
    omega
/-- after_rounds is the round, as often as told -/
theorem rounds_all {rs : List Run} {st : Option Run} {n : Int} (ok : SeqOk rs) (l4 : lenR rs ≤ 400) (so : StOk st) (h0 : 0 ≤ n) : ∃ k, AftOk rs st n k ∧ aftR rs st n k = itS rs st n.toNat := by
  have pos : ∀ r ∈ rs, 1 ≤ r.2 := fun r hr => (ok.2.1 r hr).2.1
  have ps : PosO st := fun r e => (so r e).2
  obtain ⟨f0, f1, f2⟩ := ff_bd (rs := rs) (st := st) h0
  have es : fnR rs st (ff rs st n) = itS rs st (ff rs st n).toNat := by
    have := fall_it pos ps (ff rs st n).toNat (by omega)
    rw [show (((ff rs st n).toNat : Nat) : Int) = ff rs st n by omega] at this
    exact this.symm
  by_cases c : n = ff rs st n
  · refine ⟨0, ⟨⟨fun i hi => absurd hi (Nat.not_lt_zero _), .inl (by omega)⟩, by decide, fun _ h => absurd h (by omega), fun _ h => absurd h (by omega)⟩, ?_⟩
    unfold aftR contR
    rw [crs_len, if_pos (by omega), show (n - ff rs st n).toNat = 0 by omega, List.getD_eq_getElem?_getD, crs_at (Nat.le_refl 0)]
    show fnR rs st (ff rs st n) = _
    rw [es, ← c]
  · have ef : ff rs st n = frR rs st := by
      unfold ff at c ⊢
      split
      · rfl
      · rename_i z
        rw [if_neg z] at c
        exact absurd rfl c
    have low : Low0 rs (fnR rs st (ff rs st n)) := by rw [ef]; exact fallen_low pos ps
    have psf : PosO (fnR rs st (ff rs st n)) := by rw [es]; exact itS_pos pos ps _
    have tot : ∀ m : Nat, itS rs (fnR rs st (ff rs st n)) m = itS rs st ((ff rs st n).toNat + m) := fun m => by rw [es, ← itS_add]
    generalize hs : fnR rs st (ff rs st n) = s at *
    obtain ⟨N, hN⟩ : ∃ N : Nat, n - ff rs st n = (N : Int) := ⟨(n - ff rs st n).toNat, by omega⟩
    have goal : itS rs st n.toNat = itS rs s N := by rw [tot, show (ff rs st n).toNat + N = n.toNat by omega]
    have first : ∀ k : Nat, N ≤ k → contR (courseR rs s k) (grR rs) (n - ff rs st n) = itS rs st n.toNat := fun k hk => by
      unfold contR
      rw [crs_len, if_pos (by omega), hN, goal, List.getD_eq_getElem?_getD, show (((N : Nat) : Int)).toNat = N by omega, crs_at hk]
      rfl
    cases hg : grR rs with
    | some g =>
      obtain ⟨k, k8, ce, far⟩ := course_grow (N := n - ff rs st n) pos l4 hg psf low (by omega)
      refine ⟨k, ⟨by rw [hg, hs]; exact ce, by omega, (fun h => by rw [hg] at h; cases h), fun _ hk => ?_⟩, ?_⟩
      · rw [hs]
        obtain ⟨m, e, _⟩ := far hk
        rw [e]
        intro z
        cases z
      · unfold aftR
        rw [hs]
        by_cases hk : N ≤ k
        · exact first k hk
        · obtain ⟨m, e, hm⟩ := far (by omega)
          have m1 : 1 ≤ m := itS_pos pos psf k _ e
          unfold contR
          rw [crs_len, if_neg (by omega), hg, crs_last, e, goal, show N = k + (N - k) by omega, itS_add, e, itS_grow pos hg _ _ hm m1]
          show some (g.1, m + (n - ff rs st n - (((k + 1 : Nat) : Int) - 1)) * g.2) = _
          congr 3
          congr 1
          omega
    | none =>
      obtain ⟨k, k4, ce⟩ := course_stay (N := n - ff rs st n) pos l4 hg psf low
      have back : (k : Int) < n - ff rs st n → ∃ j, j < k ∧ itS rs s j = itS rs s k := fun hk => by
        rcases ce.stop with h | h | h
        · omega
        · cases h
        · exact h
      refine ⟨k, ⟨by rw [hg, hs]; exact ce, k4, fun _ hk => ?_, fun h => absurd hg h⟩, ?_⟩
      · rw [hs]
        obtain ⟨j, hj, e⟩ := back hk
        rw [start_at ce hj e]
        exact hj
      · unfold aftR
        rw [hs]
        by_cases hk : N ≤ k
        · exact first k hk
        · obtain ⟨j, hj, e⟩ := back (by omega)
          unfold contR
          rw [crs_len, if_neg (by omega), hg]
          show (courseR rs s k).getD (startR (courseR rs s k) + ((n - ff rs st n - (startR (courseR rs s k) : Nat)) % (((k + 1 : Nat) : Int) - 1 - (startR (courseR rs s k) : Nat))).toNat) none = _
          rw [start_at ce hj e, goal, hN]
          have e1 : (((N : Nat) : Int) - (j : Nat)) % (((k + 1 : Nat) : Int) - 1 - (j : Nat)) = (((N - j) % (k - j) : Nat) : Int) := by
            rw [show ((N : Nat) : Int) - (j : Nat) = ((N - j : Nat) : Int) by omega, show ((k + 1 : Nat) : Int) - 1 - (j : Nat) = ((k - j : Nat) : Int) by omega]
            rfl
          have lt : (N - j) % (k - j) < k - j := Nat.mod_lt _ (by omega)
          have dm := Nat.div_add_mod (N - j) (k - j)
          rw [e1, show ((((N - j) % (k - j) : Nat) : Int)).toNat = (N - j) % (k - j) by omega, List.getD_eq_getElem?_getD, crs_at (by omega)]
          show itS rs s (j + (N - j) % (k - j)) = _
          rw [← itS_per hj e ((N - j) / (k - j)) ((N - j) % (k - j))]
          congr 1
          rw [Nat.mul_comm] at dm
          omega
end UP

set_option Elab.async false
set_option linter.all false
set_option maxRecDepth 100000
set_option maxHeartbeats 4000000
set_option pp.maxSteps 500
namespace UP
open PySem PySem.Spec PyProof.Rows L2
/-! ### a state that comes again comes again behind two rounds -/
theorem dist_stI : ∀ (l : List Str) (a b : Option Run), PosO a → PosO b → ∃ j : Nat, distR (stI l a) (stI l b) = distR a b - 2 * (j : Int)
  | [], a, b, _, _ => ⟨0, by show distR a b = _; omega⟩
  | x :: t, a, b, pa, pb => by
    obtain ⟨j, e⟩ := dist_stI t (stepR a x 1) (stepR b x 1) (stepR_pos pa (by decide)) (stepR_pos pb (by decide))
    have e : distR (stI (x :: t) a) (stI (x :: t) b) = distR (stepR a x 1) (stepR b x 1) - 2 * (j : Int) := e
    rcases dist_step (k := x) pa pb with h | h
    · exact ⟨j, by rw [e, h]⟩
    · exact ⟨j + 1, by rw [e, h]; omega⟩
theorem dist_stR {rs : List Run} {a b : Option Run} (pos : ∀ r ∈ rs, 1 ≤ r.2) (pa : PosO a) (pb : PosO b) : ∃ j : Nat, distR (stR rs a) (stR rs b) = distR a b - 2 * (j : Int) := by
  rw [st_items _ _ pa pos, st_items _ _ pb pos]
  exact dist_stI _ _ _ pa pb
theorem dist_it {rs : List Run} {a b : Option Run} (pos : ∀ r ∈ rs, 1 ≤ r.2) (pa : PosO a) (pb : PosO b) : ∀ n, ∃ j : Nat, distR (itS rs a n) (itS rs b n) = distR a b - 2 * (j : Int)
  | 0 => ⟨0, by show distR a b = _; omega⟩
  | n + 1 => by
    obtain ⟨i, e1⟩ := dist_it pos pa pb n
    obtain ⟨j, e2⟩ := dist_stR pos (itS_pos pos pa n) (itS_pos pos pb n)
    exact ⟨i + j, by show distR (stR rs (itS rs a n)) (stR rs (itS rs b n)) = _; rw [e2, e1]; omega⟩
theorem dist_shrink {r q : Run} {x : Str} (hr : 1 ≤ r.2) (hq : 1 ≤ q.2) (n : r.1 ≠ q.1) (n1 : r.1 ≠ x) (n2 : q.1 ≠ x) : distR (stepR (some r) x 1) (stepR (some q) x 1) = distR (some r) (some q) - 2 := by
  rw [step_other n1, step_other n2, dist_ss, if_neg n]
  by_cases c1 : 0 < r.2 - 1
  · rw [if_pos c1]
    by_cases c2 : 0 < q.2 - 1
    · rw [if_pos c2, dist_ss, if_neg n]
      show r.2 - 1 + (q.2 - 1) = _
      omega
    · rw [if_neg c2, if_pos (by omega : q.2 - 1 = 0), dist_sn]
      show r.2 - 1 = _
      omega
  · rw [if_neg c1, if_pos (by omega : r.2 - 1 = 0)]
    by_cases c2 : 0 < q.2 - 1
    · rw [if_pos c2, dist_ns]
      show q.2 - 1 = _
      omega
    · rw [if_neg c2, if_pos (by omega : q.2 - 1 = 0), dist_nn]
      omega
/-- on two rays distances are differences -/
theorem dist_sg {k : Str} {a b : Option Run} (pa : PosO a) (pb : PosO b) (h : ∀ r q, a = some r → b = some q → r.1 ≠ k → q.1 ≠ k → r.1 = q.1) : distR a b = if sgR k a - sgR k b < 0 then -(sgR k a - sgR k b) else sgR k a - sgR k b := by
  cases a with
  | none =>
    cases b with
    | none => rfl
    | some q =>
      have q1 := pb q rfl
      rw [dist_ns]
      show q.2 = if (0 : Int) - (if q.1 = k then q.2 else -q.2) < 0 then -(0 - (if q.1 = k then q.2 else -q.2)) else 0 - (if q.1 = k then q.2 else -q.2)
      by_cases c : q.1 = k
      · simp only [if_pos c]; omega
      · simp only [if_neg c]; omega
  | some r =>
    have r1 := pa r rfl
    cases b with
    | none =>
      rw [dist_sn]
      show r.2 = if (if r.1 = k then r.2 else -r.2) - 0 < 0 then -((if r.1 = k then r.2 else -r.2) - 0) else (if r.1 = k then r.2 else -r.2) - 0
      by_cases c : r.1 = k
      · simp only [if_pos c]; omega
      · simp only [if_neg c]; omega
    | some q =>
      have q1 := pb q rfl
      rw [dist_ss]
      show _ = if (if r.1 = k then r.2 else -r.2) - (if q.1 = k then q.2 else -q.2) < 0 then -((if r.1 = k then r.2 else -r.2) - (if q.1 = k then q.2 else -q.2)) else (if r.1 = k then r.2 else -r.2) - (if q.1 = k then q.2 else -q.2)
      by_cases c : r.1 = k
      · by_cases d : q.1 = k
        · simp only [if_pos c, if_pos d, if_pos (c.trans d.symm)]
        · simp only [if_pos c, if_neg d, if_neg (fun z : r.1 = q.1 => d (z.symm.trans c))]; omega
      · by_cases d : q.1 = k
        · simp only [if_neg c, if_pos d, if_neg (fun z : r.1 = q.1 => c (z.trans d))]; omega
        · simp only [if_neg c, if_neg d, if_pos (h r q rfl rfl c d)]; omega
theorem two_period {rs : List Run} {s : Option Run} {p : Nat} (pos : ∀ r ∈ rs, 1 ≤ r.2) (ps : PosO s) (p1 : 1 ≤ p) (hp : itS rs s p = s) : itS rs s 2 = s := by
  have pp : ∀ i, PosO (itS rs s i) := itS_pos pos ps
  have per : ∀ i, itS rs s (i + p) = itS rs s i := fun i => by rw [Nat.add_comm, itS_add, hp]
  -- the round keeps the distances of the states that come again
  have iso : ∀ i j, distR (itS rs s (i + 1)) (itS rs s (j + 1)) = distR (itS rs s i) (itS rs s j) := fun i j => by
    obtain ⟨a, e1⟩ := dist_stR pos (pp i) (pp j)
    have e1 : distR (itS rs s (i + 1)) (itS rs s (j + 1)) = distR (itS rs s i) (itS rs s j) - 2 * (a : Int) := e1
    obtain ⟨b, e2⟩ := dist_it pos (pp (i + 1)) (pp (j + 1)) (p - 1)
    rw [← itS_add, ← itS_add, show i + 1 + (p - 1) = i + p by omega, show j + 1 + (p - 1) = j + p by omega, per, per] at e2
    omega
  have isoN : ∀ n i j, distR (itS rs s (i + n)) (itS rs s (j + n)) = distR (itS rs s i) (itS rs s j) := fun n => by
    induction n with
    | zero => intro i j; rfl
    | succ n ih => intro i j; rw [← Nat.add_assoc, ← Nat.add_assoc, iso, ih]
  by_cases e0 : rs = []
  · subst e0
    rfl
  · -- the first item of a round keeps them as well
    obtain ⟨x, rest, hits⟩ : ∃ x rest, itR rs = x :: rest := by
      cases h : itR rs with
      | nil =>
        have := it_len pos
        rw [h] at this
        have h2 := runs_le pos
        have h3 : rs.length ≠ 0 := fun z => e0 (List.length_eq_zero_iff.mp z)
        have : (0 : Int) = lenR rs := this
        omega
      | cons x t => exact ⟨x, t, rfl⟩
    have fst : ∀ i j, distR (stepR (itS rs s i) x 1) (stepR (itS rs s j) x 1) = distR (itS rs s i) (itS rs s j) := fun i j => by
      obtain ⟨b, e2⟩ := dist_stI rest (stepR (itS rs s i) x 1) (stepR (itS rs s j) x 1) (stepR_pos (pp i) (by decide)) (stepR_pos (pp j) (by decide))
      have e3 := iso i j
      have e4 : ∀ i, itS rs s (i + 1) = stI rest (stepR (itS rs s i) x 1) := fun i => by
        show stR rs (itS rs s i) = _
        rw [st_items _ _ (pp i) pos, hits]
        rfl
      rw [e4, e4, e2] at e3
      rcases dist_step (k := x) (pp i) (pp j) with h | h <;> omega
    have two : ∀ i j r q, itS rs s i = some r → itS rs s j = some q → r.1 ≠ q.1 → x = r.1 ∨ x = q.1 := fun i j r q ei ej n => by
      refine Classical.byContradiction fun c => ?_
      have h := fst i j
      rw [ei, ej, dist_shrink (pp i r ei) (pp j q ej) n (fun z => c (.inl z.symm)) (fun z => c (.inr z.symm))] at h
      omega
    -- so they lie on two rays
    obtain ⟨k, hk⟩ : ∃ k, ∀ i j r q, itS rs s i = some r → itS rs s j = some q → r.1 ≠ k → q.1 ≠ k → r.1 = q.1 := by
      by_cases c : ∃ i r, itS rs s i = some r ∧ r.1 ≠ x
      · obtain ⟨i0, r0, h0, n0⟩ := c
        refine ⟨x, fun i j r q ei ej nr nq => Classical.byContradiction fun n => ?_⟩
        rcases two i j r q ei ej n with h | h
        · exact nr h.symm
        · exact nq h.symm
      · exact ⟨x, fun i j r q ei ej nr nq => absurd ⟨i, r, ei, nr⟩ c⟩
    have ds : ∀ i j, distR (itS rs s i) (itS rs s j) = if sgR k (itS rs s i) - sgR k (itS rs s j) < 0 then -(sgR k (itS rs s i) - sgR k (itS rs s j)) else sgR k (itS rs s i) - sgR k (itS rs s j) := fun i j => dist_sg (pp i) (pp j) (hk i j)
    refine Classical.byContradiction fun no => ?_
    have d01 : ∀ i, distR (itS rs s (i + 1)) (itS rs s i) = distR (itS rs s 1) (itS rs s 0) := fun i => by
      have := isoN i 1 0
      rw [Nat.add_comm 1 i, Nat.zero_add] at this
      exact this
    have d02 : ∀ i, distR (itS rs s (i + 2)) (itS rs s i) ≠ 0 := fun i z => by
      have := isoN i 2 0
      rw [Nat.add_comm 2 i, Nat.zero_add, z] at this
      exact no ((dist_zero (pp 2) ps).mp this.symm)
    have go : ∀ i, sgR k (itS rs s (i + 1)) - sgR k (itS rs s i) = sgR k (itS rs s 1) - sgR k (itS rs s 0) := fun i => by
      induction i with
      | zero => rfl
      | succ i ih =>
        have a1 := d01 i
        have a2 := d01 (i + 1)
        have a3 := d02 i
        rw [ds, ds] at a1 a2
        rw [ds] at a3
        have e : i + 1 + 1 = i + 2 := rfl
        rw [e] at a2 ⊢
        split at a1 <;> split at a1 <;> split at a2 <;> split at a3 <;> omega
    have lin : ∀ n : Nat, sgR k (itS rs s n) = sgR k (itS rs s 0) + (n : Int) * (sgR k (itS rs s 1) - sgR k (itS rs s 0)) := fun n => by
      induction n with
      | zero => rw [show ((0 : Nat) : Int) = 0 from rfl, Int.zero_mul, Int.add_zero]
      | succ n ih =>
        have := go n
        rw [show ((n + 1 : Nat) : Int) = (n : Int) + 1 by omega, Int.add_mul, Int.one_mul]
        omega
    have l1 := lin p
    rw [hp] at l1
    have z : (p : Int) * (sgR k (itS rs s 1) - sgR k (itS rs s 0)) = 0 := by
      have : sgR k (itS rs s 0) = sgR k s := rfl
      omega
    have z1 : sgR k (itS rs s 1) - sgR k (itS rs s 0) = 0 := by
      rcases Int.mul_eq_zero.mp z with h | h
      · omega
      · exact h
    have h1 := d01 0
    rw [ds] at h1
    have e1 : distR (itS rs s 1) (itS rs s 0) = 0 := by rw [ds, z1]; rfl
    have e2 : itS rs s 1 = s := (dist_zero (pp 1) ps).mp e1
    refine no ?_
    show stR rs (itS rs s 1) = s
    rw [e2]
    exact e2
end UP

set_option Elab.async false
set_option linter.all false
set_option maxRecDepth 100000
set_option maxHeartbeats 4000000
set_option pp.maxSteps 300
namespace UP
open PySem PySem.Spec PyProof.Rows L2
/-- a list of states -/
def StL (H : Hp) (a : Addr) (es : List (Option Run)) : Prop := ∃ xs, H a = some (.lst xs) ∧ Paired (StV H) xs es
theorem sts_same {H H' : Hp} {xs : List V} {es : List (Option Run)} (s : Same H H') (h : Paired (StV H) xs es) : Paired (StV H') xs es := Paired.imp (fun _ _ z => z.same s) h
theorem StV.growE {H : Hp} {D : Addr} {acc acc' : List V} {v : V} {st : Option Run} (hD : H D = some (.lst acc)) (h : StV H v st) : StV (upd H D (.lst acc')) v st := by
  cases st with
  | none => exact h
  | some r =>
    obtain ⟨t, e, ht⟩ := h
    refine ⟨t, e, ?_⟩
    rw [upd_ne (ne_of ht hD (by intro q; cases q))]
    exact ht
theorem StV.butE {H H' : Hp} {D : Addr} {acc : List V} {v : V} {st : Option Run} (hD : H D = some (.lst acc)) (b : But D H H') (h : StV H v st) : StV H' v st := by
  cases st with
  | none => exact h
  | some r =>
    obtain ⟨t, e, ht⟩ := h
    exact ⟨t, e, b _ _ (ne_of ht hD (by intro q; cases q)) ht⟩
theorem sts_grow {H : Hp} {D : Addr} {acc acc' : List V} {xs : List V} {es : List (Option Run)} (hD : H D = some (.lst acc)) (h : Paired (StV H) xs es) : Paired (StV (upd H D (.lst acc'))) xs es := Paired.imp (fun _ _ z => z.growE hD) h
theorem StL.same {H H' : Hp} {a : Addr} {es : List (Option Run)} (s : Same H H') (h : StL H a es) : StL H' a es := by
  obtain ⟨xs, hx, hp⟩ := h
  exact ⟨xs, s _ _ hx, sts_same s hp⟩
/-- the endings of the moments from s on stand in a list -/
def EndL (H : Hp) (xs : List V) (items : List Str) (s : Nat) : Prop := xs.length = items.length + 1 ∧ ∀ m, s ≤ m → m ≤ items.length → ∃ v, xs[m]? = some v ∧ StV H v (stI (items.drop m) none)
theorem g_at {i : Nat} {v w : V} {σ : L2.St} {H : Hp} {k : L2.St → Hp → Prop} (e : v = w) (h : gName i w σ H k) : gName i v σ H k := by
  subst e
  exact h
theorem ixE {n : Nat} {i : Int} (h0 : 0 ≤ i) (h1 : i < n) : ixN n i = some i.toNat := by
  unfold ixN
  rw [if_pos h0, if_pos (by omega)]
section
variable {P : Program} {w : World} {K : PySem.W.Frag} {mg : Str → Option Value} {base : Heap}
/-! check_kind: slots 0:kind -/
abbrev s_check_kind : Stmt := topS 27
theorem sc_check_kind : FnScope ["kind"] ["kind"] (defScope s_check_kind) := ⟨rfl, rfl, rfl, by decide +kernel, rfl, by decide +kernel, by decide +kernel⟩
def sp_check_kind : Sp := fun vs H Q _ => ∃ k : Str, vs = [.str k] ∧ KindOk k ∧ ∀ H', Same H H' → Q .non H'
theorem ok_check_kind (D : Df K mg "check_kind" s_check_kind) (G_is_kind : Has P w K mg base 1 "is_kind" ["value"] sp_is_kind) : Has P w K mg base 2 "check_kind" ["kind"] sp_check_kind := by
  refine has_of D sc_check_kind (fun _ _ _ _ _ _ us hl => match us, hl with | [_], _ => rfl) (fun vs H Q E h => ?_) (fun f cdv A outer s H vs Q E hr h => ?_)
  · obtain ⟨v, rfl, _⟩ := h
    rfl
  · obtain ⟨k, rfl, ok, q⟩ := h
    refine ⟨_, (pss_one (ps_if (pt_not (pt_val (pe_callH G_is_kind (hr.mono (by omega)) (by rfl) (pa_cons (pv 0) pa_nil)))) (pss_one ps_never) pss_nil)), ?_⟩
    exact ⟨_, rfl, k, rfl, ok, fun H1 s1 => ⟨_, rfl, iteF (q _ s1)⟩⟩
/-! ending_from: slots 0:items 1:start 2:endings 3:kind 4:number 5:moment -/
abbrev s_ending_from : Stmt := topS 56
theorem sc_ending_from : FnScope ["items", "start", "endings", "kind", "number", "moment"] ["items", "start", "endings"] (defScope s_ending_from) := ⟨rfl, rfl, rfl, by decide +kernel, rfl, by decide +kernel, by decide +kernel⟩
def sp_ending_from : Sp := fun vs H Q _ => ∃ (a e : Addr) (items : List Str) (s : Nat) (xs : List V), vs = [.ref a, .int s, .ref e] ∧ H a = some (.lst (items.map V.str)) ∧ H e = some (.lst xs) ∧ EndL H xs items (s + 1) ∧ s < items.length ∧ items.length ≤ 400 ∧ ∀ H' v, Same H H' → StV H' v (stI (items.drop s) none) → Q v H'
theorem ok_ending_from (D : Df K mg "ending_from" s_ending_from) (T : Tx mg) : Has P w K mg base 1 "ending_from" ["items", "start", "endings"] sp_ending_from := by
  refine has_of D sc_ending_from (fun _ _ _ _ _ _ us hl => match us, hl with | [_, _, _], _ => rfl) (fun vs H Q E h => ?_) (fun f cdv A outer s₀ H vs Q E hr h => ?_)
  · obtain ⟨_, _, _, _, _, rfl, _⟩ := h
    rfl
  · obtain ⟨a, e, items, s, xs, rfl, ha, he, ⟨lx, hE⟩, ls, l4, q⟩ := h
    obtain ⟨k, hk⟩ : ∃ k, items[s]? = some k := ⟨_, List.getElem?_eq_getElem ls⟩
    have at' : ∀ (i : Nat) (x : Str), items[i]? = some x → atI (items.map V.str) (i : Int) = some (.str x) := fun i x h => atI_ofR (by omega) (by rw [Int.toNat_natCast, List.getElem?_map, h]; rfl)
    refine ⟨_, (pss_cons (ps_set (i := 3) sc_ending_from.nd rfl (by first | exact Or.inl rfl | exact Or.inr rfl) (pe_ix ix_list (pv 0) (pv 1) (fun _ _ => rfl)))
    (pss_cons (ps_set (i := 4) sc_ending_from.nd rfl (by first | exact Or.inl rfl | exact Or.inr rfl) pe_int)
    (pss_cons (ps_for PassesOwn.never rfl (pi_range2 (by rfl) T.n_range (pa_cons (pv 1) (pa_cons (pe_callB call_len_seq (by rfl) T.n_len (by decide +kernel) (pa_cons (pv 0) pa_nil)) pa_nil))) (pg_name (i := 5) sc_ending_from.nd rfl (by first | exact Or.inl rfl | exact Or.inr rfl))
      (pss_cons (ps_aug (i := 4) sc_ending_from.nd rfl (by first | exact Or.inl rfl | exact Or.inr rfl) (pe_ifExp (pt_cmpR op_eq (pe_ix ix_list (pv 0) (pv 5) (fun _ _ => rfl)) (pv 3) (nomark _)) pe_int (pe_un un_neg pe_int)) ip_add)
    (pss_one (ps_if (pt_cmpR op_eq (pv 4) pe_int (nomark _)) (pss_one (ps_ret (pe_ix ix_list (pv 2) (pe_op op_add (pv 5) pe_int) (fun _ _ => rfl)))) pss_nil))))
    (pss_one (ps_ret (pe_tup (pa_cons (pv 3) (pa_cons (pv 4) pa_nil)))))))), ?_⟩
    refine ⟨_, rfl, _, rfl, a, _, (s : Int), _, rfl, rfl, .of ha, at' s k hk, ?_⟩
    have lm : (items.map V.str).length = items.length := List.length_map ..
    refine ⟨_, rfl, _, rfl, a, _, rfl, .inl (.of ha), (s : Int), ((items.map V.str).length : Int), rfl, ⟨by omega, by omega, by omega, by omega⟩, for_range (lo := (s : Int)) (n := _) (fun i σ H' => ∃ (n : Int) (y5 : Option V), σ = [some (.ref a), some (.int s), some (.ref e), some (.str k), some (.int n), y5] ∧ H' = H ∧ 0 ≤ n ∧ (n = 0 ↔ i = 0) ∧ s + i ≤ items.length ∧ stI (items.drop s) none = stI (items.drop (s + i)) (withR k n))
      ⟨0, none, rfl, rfl, Int.le_refl _, ⟨fun _ => rfl, fun _ => rfl⟩, by omega, by rw [with0]; rfl⟩ (fun i σ H2 hi hP => ?_) (fun σ H2 hP => ?_)⟩
    · obtain ⟨n, y5, rfl, rfl, n0, ni, sl, eq⟩ := hP
      have hi : i < ((items.map V.str).length - (s : Int)).toNat := hi
      have li : s + i < items.length := by omega
      obtain ⟨x, hx⟩ : ∃ x, items[s + i]? = some x := ⟨_, List.getElem?_eq_getElem li⟩
      have ex : atI (items.map V.str) ((s : Int) + (i : Int)) = some (.str x) := by
        have := at' (s + i) x hx
        rw [show ((s + i : Nat) : Int) = (s : Int) + (i : Int) by omega] at this
        exact this
      have xk : n = 0 → x = k := fun z => by
        rw [ni.mp z, Nat.add_zero, hk] at hx
        exact (Option.some.inj hx).symm
      have st : stI (items.drop s) none = stI (items.drop (s + i + 1)) (withR k (n + if x = k then 1 else -1)) := by
        rw [eq, stI_drop hx, step_with n0 xk]
      refine ⟨_, rfl, _, rfl, _, rfl, a, _, _, _, rfl, rfl, .of ha, ex, _, rfl, rfl, _, rfl, ?_⟩
      obtain ⟨c, ec⟩ : ∃ c : Int, c = n + (if x = k then 1 else -1) := ⟨_, rfl⟩
      rw [← ec] at st
      have cc : 0 ≤ c := by
        rw [ec]
        split
        · omega
        · rename_i z
          have : n ≠ 0 := fun q => z (xk q)
          omega
      have hEnd := hE (s + i + 1) (by omega) (by omega)
      obtain ⟨vE, hvE, hsE⟩ := hEnd
      have exE : atI xs ((s : Int) + (i : Int) + 1) = some vE := atI_ofR (by omega) (by rw [show ((s : Int) + (i : Int) + 1).toNat = s + i + 1 by omega]; exact hvE)
      refine ite2 (fun e1 => ?_) (fun e1 => ?_)
      · have e1 : x = k := V.str.inj (of_decide_eq_true e1)
        rw [if_pos e1] at ec
        refine ⟨_, _, rfl, rfl, _, rfl, rfl, _, rfl, iteN (decide_eq_false (fun z => ?_)) ⟨c, some (.int ((s : Int) + (i : Int))), ?_, rfl, cc, ⟨fun z => ?_, fun z => by omega⟩, by omega, st⟩⟩
        · have : n + 1 = 0 := V.int.inj z
          omega
        · rw [ec]
          rfl
        · omega
      · have e1 : ¬ x = k := fun z => e1 (decide_eq_true (by rw [z]))
        rw [if_neg e1] at ec
        refine ⟨_, rfl, _, _, rfl, rfl, _, rfl, rfl, _, rfl, ite2 (fun e2 => ?_) (fun e2 => ?_)⟩
        · have e2 : n + -1 = 0 := V.int.inj (of_decide_eq_true e2)
          refine ⟨_, rfl, _, rfl, _, _, rfl, rfl, e, _, _, _, rfl, rfl, .of he, exE, q _ _ (Same.refl _) ?_⟩
          rw [st, show c = 0 by omega, with0]
          exact hsE
        · have e2 : ¬ n + -1 = 0 := fun z => e2 (decide_eq_true (by show V.int (n + -1) = V.int 0; rw [z]))
          refine ⟨c, some (.int ((s : Int) + (i : Int))), ?_, rfl, cc, ⟨fun z => by omega, fun z => by omega⟩, by omega, st⟩
          rw [ec]
          rfl
    · obtain ⟨n, y5, rfl, rfl, n0, ni, sl, eq⟩ := hP
      have en : s + ((items.map V.str).length - (s : Int)).toNat = items.length := by omega
      rw [en, List.drop_length] at eq
      refine ⟨_, rfl, _, rfl, (by show 2 ≤ sizeLine; decide), fun t nt => q _ _ (same_upd nt) ?_⟩
      rw [eq]
      show StV _ _ (withR k n)
      rw [with_pos (by have := ni.mp; omega)]
      exact ⟨t, rfl, upd_same⟩
/-! endings_of: slots 0:items 1:endings 2:start -/
abbrev s_endings_of : Stmt := topS 57
theorem sc_endings_of : FnScope ["items", "endings", "start"] ["items"] (defScope s_endings_of) := ⟨rfl, rfl, rfl, by decide +kernel, rfl, by decide +kernel, by decide +kernel⟩
def sp_endings_of : Sp := fun vs H Q _ => ∃ (a : Addr) (items : List Str), vs = [.ref a] ∧ H a = some (.lst (items.map V.str)) ∧ items.length ≤ 400 ∧ ∀ H' e xs, Same H H' → H e = none → H' e = some (.lst xs) → EndL H' xs items 0 → Q (.ref e) H'
theorem ok_endings_of (D : Df K mg "endings_of" s_endings_of) (T : Tx mg) (G_ending_from : Has P w K mg base 1 "ending_from" ["items", "start", "endings"] sp_ending_from) : Has P w K mg base 2 "endings_of" ["items"] sp_endings_of := by
  refine has_of D sc_endings_of (fun _ _ _ _ _ _ us hl => match us, hl with | [_], _ => rfl) (fun vs H Q E h => ?_) (fun f cdv A outer s₀ H vs Q E hr h => ?_)
  · obtain ⟨_, _, rfl, _⟩ := h
    rfl
  · obtain ⟨a, items, rfl, ha, l4, q⟩ := h
    have lm : (items.map V.str).length = items.length := List.length_map ..
    refine ⟨_, (pss_cons (ps_set (i := 1) sc_endings_of.nd rfl (by first | exact Or.inl rfl | exact Or.inr rfl) (pe_op op_rep (pe_lst (pa_cons pe_non pa_nil)) (pe_op op_add (pe_callB call_len_seq (by rfl) T.n_len (by decide +kernel) (pa_cons (pv 0) pa_nil)) pe_int)))
    (pss_cons (ps_for PassesOwn.never rfl (pi_revR (by rfl) T.n_reversed (prg_1 (by rfl) T.n_range (pe_callB call_len_seq (by rfl) T.n_len (by decide +kernel) (pa_cons (pv 0) pa_nil)))) (pg_name (i := 2) sc_endings_of.nd rfl (by first | exact Or.inl rfl | exact Or.inr rfl))
      (pss_one (ps_asg (pe_callH G_ending_from (hr.mono (by omega)) (by rfl) (pa_cons (pv 0) (pa_cons (pv 2) (pa_cons (pv 1) pa_nil)))) (pg_sub (pv 1) (pv 2) set_list))))
    (pss_one (ps_ret (pv 1))))), ?_⟩
    refine ⟨(by show 1 ≤ sizeLine; decide), fun l1 n1 => ?_⟩
    have s1 := same_upd (o := .lst [.non]) n1
    refine ⟨_, rfl, a, _, rfl, .inl (.of (s1 _ _ ha)), _, _, rfl, rfl, l1, _, [.non], rfl, rfl, upd_same, (by omega), (by omega), smallE (by show 1 * (((items.map V.str).length : Int) + 1).toNat ≤ 1000000; omega), fun e ne => ?_⟩
    rw [flat_one]
    have en : (((items.map V.str).length : Int) + 1).toNat = items.length + 1 := by omega
    rw [en]
    have sA := s1.trans (same_upd (o := .lst (List.replicate (items.length + 1) .non)) ne)
    have neH : H e = none := s1.free ne
    have hE0 : (upd (upd H l1 (.lst [.non])) e (.lst (List.replicate (items.length + 1) .non))) e = some (.lst (List.replicate (items.length + 1) .non)) := upd_same
    generalize upd (upd H l1 (.lst [.non])) e (.lst (List.replicate (items.length + 1) .non)) = H2 at *
    refine ⟨_, rfl, a, _, rfl, .inl (.of (sA _ _ ha)), _, rfl, by decide, by decide, by omega, by omega, for_it walk_rangeC (fun i σ H' => ∃ y2 xs, σ = [some (.ref a), some (.ref e), y2] ∧ Same H H' ∧ H' e = some (.lst xs) ∧ EndL H' xs items (items.length - i))
      ⟨none, _, rfl, sA, hE0, ?_, fun m m1 m2 => ?_⟩ (fun _ _ _ _ _ => trivial) (fun i x σ Ha Hb hi hP hY => ?_) (fun σ H' hP => ?_)⟩
    · rw [List.length_replicate]
    · have : m = items.length := by omega
      subst this
      refine ⟨.non, ?_, ?_⟩
      · rw [List.getElem?_replicate, if_pos (by omega)]
      · rw [List.drop_length]
        rfl
    · obtain ⟨y2, xs, rfl, sm, hxs, hE⟩ := hP
      obtain ⟨rfl, rfl⟩ := hY
      have hi : i < (((items.map V.str).length : Int) - 0).toNat := hi
      have ei : (0 + (((((items.map V.str).length : Int) - 0).toNat : Nat) : Int) - 1 + (i : Nat) * (-1) : Int) = ((items.length - 1 - i : Nat) : Int) := by omega
      refine g_at (congrArg V.int ei) ?_
      obtain ⟨s, es⟩ : ∃ s : Nat, s = items.length - 1 - i := ⟨_, rfl⟩
      rw [← es]
      have e1 : items.length - i = s + 1 := by omega
      have e2 : items.length - (i + 1) = s := by omega
      rw [e1] at hE
      rw [e2]
      refine ⟨_, rfl, _, rfl, _, rfl, a, e, items, s, xs, rfl, sm _ _ ha, hxs, hE, by omega, l4, fun H3 v s3 hv => ?_⟩
      obtain ⟨lx, hEv⟩ := hE
      have hx3 := s3 _ _ hxs
      refine ⟨_, rfl, _, rfl, e, xs, (s : Int), s, rfl, rfl, hx3, ?_, ?_⟩
      · have := ixE (n := xs.length) (i := (s : Int)) (by omega) (by omega)
        rw [Int.toNat_natCast] at this
        exact this
      · refine ⟨_, xs.set s v, rfl, same_grow neH (sm.trans s3), upd_same, by rw [List.length_set]; exact lx, fun m m1 m2 => ?_⟩
        by_cases em : m = s
        · subst em
          exact ⟨v, by rw [List.getElem?_set_self (by omega)], hv.growE hx3⟩
        · obtain ⟨u, hu, hus⟩ := hEv m (by omega) m2
          exact ⟨u, by rw [List.getElem?_set_ne (fun z => em z.symm)]; exact hu, (hus.same s3).growE hx3⟩
    · obtain ⟨y2, xs, rfl, sm, hxs, hE⟩ := hP
      rw [show items.length - (((items.map V.str).length : Int) - 0).toNat = 0 by omega] at hE
      exact ⟨_, rfl, q _ e xs sm neH hxs hE⟩
/-! shift_of: slots 0:items 1:kind -/
abbrev s_shift_of : Stmt := topS 58
theorem sc_shift_of : FnScope ["items", "kind"] ["items", "kind"] (defScope s_shift_of) := ⟨rfl, rfl, rfl, by decide +kernel, rfl, by decide +kernel, by decide +kernel⟩
def sp_shift_of : Sp := fun vs H Q _ => ∃ (a : Addr) (items : List Str) (k : Str), vs = [.ref a, .str k] ∧ H a = some (.lst (items.map V.str)) ∧ Q (.int (chR items k)) H
theorem ok_shift_of (D : Df K mg "shift_of" s_shift_of) (T : Tx mg) : Has P w K mg base 1 "shift_of" ["items", "kind"] sp_shift_of := by
  refine has_of D sc_shift_of (fun _ _ _ _ _ _ us hl => match us, hl with | [_, _], _ => rfl) (fun vs H Q E h => ?_) (fun f cdv A outer s₀ H vs Q E hr h => ?_)
  · obtain ⟨_, _, _, rfl, _⟩ := h
    rfl
  · obtain ⟨a, items, k, rfl, ha, q⟩ := h
    refine ⟨_, (pss_one (ps_ret (pe_op op_sub (pe_op op_mul pe_int (pe_bm PySem.F.plainAttrs_list PySem.F.slot_list_count PySem.F.type_list_count mt_lcountS (pv 0) (pa_cons (pv 1) pa_nil))) (pe_callB call_len_seq (by rfl) T.n_len (by decide +kernel) (pa_cons (pv 0) pa_nil))))), ?_⟩
    rw [chR_cnt] at q
    refine ⟨_, rfl, .inl ⟨rfl, _, SqL.of ha⟩, _, rfl, a, items, k, rfl, rfl, .of ha, _, _, rfl, rfl, .inl ⟨by decide, by decide⟩, _, rfl, a, _, rfl, .inl (.of ha), _, _, rfl, rfl, ?_⟩
    rw [List.length_map]
    exact q
/-! effects_up_to: slots 0:items 1:endings 2:kind 3:most 4:effects 5:change 6:moment 7:item -/
abbrev s_effects_up_to : Stmt := topS 59
theorem sc_effects_up_to : FnScope ["items", "endings", "kind", "most", "effects", "change", "moment", "item"] ["items", "endings", "kind", "most"] (defScope s_effects_up_to) := ⟨rfl, rfl, rfl, by decide +kernel, rfl, by decide +kernel, by decide +kernel⟩
def sp_effects_up_to : Sp := fun vs H Q _ => ∃ (a e : Addr) (items : List Str) (k : Str) (M : Nat) (xs : List V), vs = [.ref a, .ref e, .str k, .int M] ∧ H a = some (.lst (items.map V.str)) ∧ H e = some (.lst xs) ∧ EndL H xs items 0 ∧ items.length ≤ M ∧ M ≤ 400 ∧
  ∀ H' p es, Same H H' → H p = none → StL H' p es → es.length = M + 1 → (∀ n : Nat, n < M + 1 → es[n]? = some (fxR items k n)) → Q (.ref p) H'
theorem ok_effects_up_to (D : Df K mg "effects_up_to" s_effects_up_to) (T : Tx mg) (G_state_with : Has P w K mg base 1 "state_with" ["kind", "number"] sp_state_with) : Has P w K mg base 2 "effects_up_to" ["items", "endings", "kind", "most"] sp_effects_up_to := by
  refine has_of D sc_effects_up_to (fun _ _ _ _ _ _ us hl => match us, hl with | [_, _, _, _], _ => rfl) (fun vs H Q E h => ?_) (fun f cdv A outer s₀ H vs Q E hr h => ?_)
  · obtain ⟨_, _, _, _, _, _, rfl, _⟩ := h
    rfl
  · obtain ⟨a, e, items, k, M, xs, rfl, ha, he, ⟨lx, hE⟩, lM, l4, q⟩ := h
    have lm : (items.map V.str).length = items.length := List.length_map ..
    obtain ⟨v0, hv0, hs0⟩ := hE 0 (Nat.le_refl _) (Nat.zero_le _)
    have atE : ∀ (i : Nat) (v : V), xs[i]? = some v → atI xs (i : Int) = some v := fun i v h => atI_ofR (by omega) (by rw [Int.toNat_natCast]; exact h)
    refine ⟨_, (pss_cons (ps_set (i := 4) sc_effects_up_to.nd rfl (by first | exact Or.inl rfl | exact Or.inr rfl) (pe_lst (pa_cons (pe_ix ix_list (pv 1) pe_int (fun _ _ => rfl)) pa_nil)))
    (pss_cons (ps_set (i := 5) sc_effects_up_to.nd rfl (by first | exact Or.inl rfl | exact Or.inr rfl) pe_int)
    (pss_cons (ps_for PassesOwn.never rfl (pi_enum (by rfl) T.n_enumerate (pa_cons (pv 0) pa_nil)) (pg_tup rfl (pgs_cons (pg_name (i := 6) sc_effects_up_to.nd rfl (by first | exact Or.inl rfl | exact Or.inr rfl)) (pgs_cons (pg_name (i := 7) sc_effects_up_to.nd rfl (by first | exact Or.inl rfl | exact Or.inr rfl)) pgs_nil)))
      (C8.pss_cut (ps_aug (i := 5) sc_effects_up_to.nd rfl (by first | exact Or.inl rfl | exact Or.inr rfl) (pe_ifExp (pt_cmpR op_eq (pv 7) (pv 2) (nomark _)) pe_int (pe_un un_neg pe_int)) ip_add)
    (pss_one (ps_if (pt_cmpR op_eq (pv 5) (pe_un un_neg (pe_callB call_len_seq (by rfl) T.n_len (by decide +kernel) (pa_cons (pv 4) pa_nil))) (nomark _)) (pss_one (ps_expr (pe_bm PySem.F.plainAttrs_list PySem.F.slot_list_append PySem.F.type_list_append mt_append (pv 4) (pa_cons (pe_ix ix_list (pv 1) (pe_op op_add (pv 6) pe_int) (fun _ _ => rfl)) pa_nil)))) pss_nil))))
    (pss_cons (ps_while PassesOwn.never (pt_cmpR op_le (pe_callB call_len_seq (by rfl) T.n_len (by decide +kernel) (pa_cons (pv 4) pa_nil)) (pv 3) (nomark _))
      (pss_one (ps_expr (pe_bm PySem.F.plainAttrs_list PySem.F.slot_list_append PySem.F.type_list_append mt_append (pv 4) (pa_cons (pe_callH G_state_with (hr.mono (by omega)) (by rfl) (pa_cons (pv 2) (pa_cons (pe_op op_add (pe_callB call_len_seq (by rfl) T.n_len (by decide +kernel) (pa_cons (pv 4) pa_nil)) (pv 5)) pa_nil))) pa_nil)))))
    (pss_one (ps_ret (pv 4))))))), ?_⟩
    refine ⟨_, rfl, e, _, 0, _, rfl, rfl, .of he, atE 0 v0 hv0, (by show 1 ≤ sizeLine; decide), fun p np => ?_⟩
    have s1 := same_upd (o := .lst [v0]) np
    have hp : StL (upd H p (.lst [v0])) p [fxR items k 0] := ⟨_, upd_same, .cons (by unfold fxR; rw [with0]; exact hs0.same s1) .nil⟩
    have ep : e ≠ p := ne_of_none he np
    have ap : a ≠ p := ne_of_none ha np
    have he1 := s1 _ _ he
    generalize upd H p (.lst [v0]) = H1 at *
    -- the items
    refine ⟨_, rfl, a, _, rfl, .of (s1 _ _ ha), for_it (walk_enum (xs := items.map V.str)) (fun i σ H' => ∃ y6 y7 es, σ = [some (.ref a), some (.ref e), some (.str k), some (.int M), some (.ref p), some (.int (chR (items.take i) k)), y6, y7] ∧ Same H H' ∧ StL H' p es ∧ Low items k i es.length ∧ ∀ n : Nat, n < es.length → es[n]? = some (fxR items k n))
      ⟨none, none, _, rfl, s1, hp, Low.start items k, fun n hn => ?_⟩ (fun i σ H' _ hP => ?_) (fun i x σ Ha Hb hi hP hY => ?_) (fun σ H' hP => ?_)⟩
    · have : n = 0 := by
        have : n < 1 := hn
        omega
      subst this
      rfl
    · obtain ⟨_, _, _, _, sm, _⟩ := hP
      exact .of (sm _ _ ha)
    · obtain ⟨y6, y7, es, rfl, sm, ⟨zs, hz, hpz⟩, low, val⟩ := hP
      obtain ⟨Tt, x1, x2, rfl, nT, rfl, g1, g2⟩ := hY
      cases g1
      have g2 : (items.map V.str)[i]? = some x2 := g2
      rw [List.getElem?_map] at g2
      cases ex : items[i]? with
      | none =>
        rw [ex] at g2
        cases g2
      | some x =>
        rw [ex] at g2
        cases g2
        have sT := same_upd (o := .tup [.int (i : Nat), .str x]) nT
        have li : i < items.length := (List.getElem?_eq_some_iff.mp ex).1
        have lz := Paired.len hpz
        have ch : chR (items.take (i + 1)) k = chR (items.take i) k + if x = k then 1 else -1 := by rw [take_snoc ex, chR_snoc]
        have hzT := sT _ _ hz
        have hpT := sts_same sT hpz
        have smT := sm.trans sT
        have heT := smT _ _ he
        have hTt : (upd Ha Tt (.tup [.int (i : Nat), .str x])) Tt = some (.tup [.int (i : Nat), .str x]) := upd_same
        generalize upd Ha Tt (.tup [.int (i : Nat), .str x]) = Hc at *
        obtain ⟨vE, hvE, hsE⟩ := hE (i + 1) (Nat.zero_le _) (by omega)
        have l4' := low.le
        have exE : atI xs ((i : Int) + 1) = some vE := by
          have := atE (i + 1) vE hvE
          rw [show ((i + 1 : Nat) : Int) = (i : Int) + 1 by omega] at this
          exact this
        refine ⟨Tt, _, rfl, .of hTt, rfl, _, _, rfl, _, _, rfl, rfl, ?_⟩
        refine ⟨fun σ' H' => σ' = [some (.ref a), some (.ref e), some (.str k), some (.int M), some (.ref p), some (.int (chR (items.take (i + 1)) k)), some (.int (i : Nat)), some (.str x)] ∧ H' = Hc, ?_, fun σ' Hd hM => ?_⟩
        · refine ⟨_, rfl, _, rfl, _, rfl, rfl, _, rfl, ite2 (fun e1 => ?_) (fun e1 => ?_)⟩
          · have e1 : x = k := V.str.inj (of_decide_eq_true e1)
            rw [if_pos e1] at ch
            refine ⟨_, _, rfl, rfl, ?_, rfl⟩
            rw [ch]
            rfl
          · have e1 : ¬ x = k := fun z => e1 (decide_eq_true (by rw [z]))
            rw [if_neg e1] at ch
            refine ⟨_, rfl, _, _, rfl, rfl, ?_, rfl⟩
            rw [ch]
            rfl
        obtain ⟨rfl, rfl⟩ := hM
        refine ⟨_, rfl, _, rfl, p, _, rfl, .inl (.of hzT), _, rfl, rfl, _, rfl, ite2 (fun e1 => ?_) (fun e1 => ?_)⟩
        · have e1 : chR (items.take (i + 1)) k = -(zs.length : Int) := V.int.inj (of_decide_eq_true e1)
          rw [lz] at e1
          obtain ⟨low2, fx⟩ := low.more ex e1
          refine ⟨_, rfl, .inl ⟨rfl, _, SqL.of hzT⟩, _, rfl, _, rfl, _, _, rfl, rfl, e, _, _, _, rfl, rfl, .of heT, exE, p, _, _, rfl, rfl, hzT, small (by omega), ?_⟩
          refine ⟨_, _, es ++ [fxR items k es.length], rfl, same_grow np smT, ⟨_, upd_same, Paired.app (sts_grow hzT hpT) (.cons ?_ .nil)⟩, ?_, fun n hn => ?_⟩
          · rw [fx]
            exact (hsE.same smT).growE hzT
          · rw [List.length_append]
            exact low2
          · rw [List.length_append] at hn
            have hn : n < es.length + 1 := hn
            by_cases en : n < es.length
            · rw [List.getElem?_append_left en]
              exact val n en
            · have : n = es.length := by omega
              subst this
              rw [List.getElem?_append_right (Nat.le_refl _), Nat.sub_self]
              rfl
        · have e1 : ¬ chR (items.take (i + 1)) k = -(es.length : Int) := fun z => e1 (decide_eq_true (by rw [z, ← lz]))
          exact ⟨_, _, es, rfl, smT, ⟨zs, hzT, hpT⟩, low.stay ex e1, val⟩
    · obtain ⟨y6, y7, es, rfl, sm, hz, low, val⟩ := hP
      rw [lm, List.take_length] at *
      obtain ⟨L0, eL0⟩ : ∃ L0, L0 = es.length := ⟨_, rfl⟩
      rw [← eL0] at low
      refine ⟨fun m σ H' => ∃ es, σ = [some (.ref a), some (.ref e), some (.str k), some (.int M), some (.ref p), some (.int (chR items k)), y6, y7] ∧ m = M + 1 - es.length ∧ Same H H' ∧ StL H' p es ∧ L0 ≤ es.length ∧ es.length ≤ M + 1 ∧ ∀ n : Nat, n < es.length → es[n]? = some (fxR items k n), ⟨_, es, rfl, rfl, sm, hz, by omega, by have := low.le; omega, val⟩, fun m σ H4 hP => ?_⟩
      clear sm hz val eL0
      obtain ⟨es, rfl, rfl, sm, ⟨zs, hz, hpz⟩, l0, l1, val⟩ := hP
      have lz := Paired.len hpz
      refine ⟨_, rfl, p, _, rfl, .inl (.of hz), _, rfl, _, _, rfl, rfl, _, rfl, ite2 (fun e1 => ?_) (fun e1 => ?_)⟩
      · have e1 : (zs.length : Int) ≤ M := of_decide_eq_true e1
        refine ⟨fun σ' H' => ∃ es', σ' = [some (.ref a), some (.ref e), some (.str k), some (.int M), some (.ref p), some (.int (chR items k)), y6, y7] ∧ M + 1 - es'.length < M + 1 - es.length ∧ Same H H' ∧ StL H' p es' ∧ L0 ≤ es'.length ∧ es'.length ≤ M + 1 ∧ ∀ n : Nat, n < es'.length → es'[n]? = some (fxR items k n), fun σ' H' z => ?_, ?_⟩
        · obtain ⟨es', e1, e2, r⟩ := z
          exact ⟨_, e2, es', e1, rfl, r⟩
        have fx : fxR items k es.length = withR k ((zs.length : Int) + chR items k) := by
          have := (low.far es.length (by omega)).2
          rw [List.take_length] at this
          unfold fxR
          rw [this, lz]
        refine ⟨_, rfl, .inl ⟨rfl, _, SqL.of hz⟩, _, rfl, _, rfl, p, _, rfl, .inl (.of hz), _, rfl, _, _, rfl, rfl, k, _, rfl, fun H5 v s5 hv => ⟨p, _, _, rfl, rfl, s5 _ _ hz, small (by omega), ?_⟩⟩
        have hz5 := s5 _ _ hz
        refine ⟨es ++ [fxR items k es.length], rfl, by rw [List.length_append]; show M + 1 - (es.length + 1) < _; omega, same_grow np (sm.trans s5), ⟨_, upd_same, Paired.app (sts_grow hz5 (sts_same s5 hpz)) (.cons ?_ .nil)⟩, by rw [List.length_append]; omega, by rw [List.length_append]; show es.length + 1 ≤ M + 1; omega, fun n hn => ?_⟩
        · rw [fx]
          exact hv.growE hz5
        · rw [List.length_append] at hn
          have hn : n < es.length + 1 := hn
          by_cases en : n < es.length
          · rw [List.getElem?_append_left en]
            exact val n en
          · have : n = es.length := by omega
            subst this
            rw [List.getElem?_append_right (Nat.le_refl _), Nat.sub_self]
            rfl
      · have e1 : ¬ (zs.length : Int) ≤ M := fun z => e1 (decide_eq_true z)
        exact ⟨_, rfl, q _ p es sm np ⟨zs, hz, hpz⟩ (by omega) (fun n hn => val n (by omega))⟩
end
end UP

set_option Elab.async false
set_option linter.all false
set_option maxRecDepth 100000
set_option maxHeartbeats 4000000
set_option pp.maxSteps 300
namespace UP
open PySem PySem.Spec PyProof.Rows L2
/-- a list or tuple of states -/
def StLG (H : Hp) (v : V) (es : List (Option Run)) : Prop := ∃ a xs, v = .ref a ∧ Sq2 H a xs ∧ Paired (StG H) xs es
theorem Sq2.sameE {H H' : Hp} {a : Addr} {xs : List V} (s : Same H H') (h : Sq2 H a xs) : Sq2 H' a xs := h.elim (fun z => .inl (s _ _ z)) (fun z => .inr (s _ _ z))
theorem StLG.same {H H' : Hp} {v : V} {es : List (Option Run)} (s : Same H H') (h : StLG H v es) : StLG H' v es := by
  obtain ⟨a, xs, e, hx, hp⟩ := h
  exact ⟨a, xs, e, Sq2.sameE s hx, Paired.imp (fun _ _ z => z.same s) hp⟩
theorem StL.dressE {H : Hp} {a : Addr} {es : List (Option Run)} (h : StL H a es) : StLG H (.ref a) es := by
  obtain ⟨xs, hx, hp⟩ := h
  exact ⟨a, xs, rfl, .inl hx, Paired.imp (fun _ _ z => z.dress) hp⟩
theorem shaped_w {k : Str} {c : Int} (h : KindOk k) : SeqAt.shaped (dOt (withR k c)) = true := by
  unfold withR
  split
  · exact (by decide : SeqAt.shaped (dOt none) = true)
  · exact shaped_run (r := (k, c)) h
theorem chR_ge (k : Str) : ∀ l : List Str, -(l.length : Int) ≤ chR l k
  | [] => Int.le_refl _
  | x :: t => by
    rw [chR_cons, List.length_cons]
    have := chR_ge k t
    split <;> omega
theorem with_inj {k : Str} {a : Int} (h : PosO (withR k a)) : 0 ≤ a := by
  by_cases z : a = 0
  · omega
  · have := h (k, a) (if_neg z)
    have : 1 ≤ a := this
    omega
theorem cut_takeE (xs : List V) (r : Nat) (h1 : r ≤ xs.length) : cutV xs none (some (r : Int)) = xs.take r := by
  have e : HT.sIx xs.length xs.length (some (r : Int)) = r := by
    have := HT.sIx_nat xs.length xs.length r
    omega
  unfold cutV
  rw [e, HT.sIx_none, List.drop_zero, Nat.sub_zero]
theorem paired_take {α β : Type} {F : α → β → Prop} : ∀ {xs : List α} {ys : List β} (n : Nat), Paired F xs ys → Paired F (xs.take n) (ys.take n)
  | _, _, 0, _ => .nil
  | _, _, n + 1, .nil => .nil
  | _, _, n + 1, .cons h t => .cons h (paired_take n t)
theorem eff_of {items : List Str} {k : Str} {es : List (Option Run)} {l : Nat} (len : es.length = items.length + 1) (val : ∀ n : Nat, n < items.length + 1 → es[n]? = some (fxR items k n)) (ll : l ≤ items.length)
    (far : ∀ m : Nat, l ≤ m → m ≤ items.length → fxR items k m = withR k (m + chR items k)) : EffOk items k (es.take (l + 1)) := by
  have lt : (es.take (l + 1)).length = l + 1 := by
    rw [List.length_take]
    omega
  refine ⟨by omega, fun n hn => ?_, chR items k, fun n hn => ?_⟩
  · rw [List.getElem?_take, if_pos (by omega)]
    exact val n (by omega)
  · rw [lt] at hn
    have hn : (l : Int) ≤ n := by omega
    have e : fxR items k n = withR k (n + chR items k) := by
      by_cases c : n ≤ items.length
      · have := far n.toNat (by omega) (by omega)
        rw [show ((n.toNat : Nat) : Int) = n by omega] at this
        exact this
      · exact fx_far k items n (by omega)
    refine ⟨?_, e⟩
    have p : PosO (fxR items k n) := stI_pos items _ (pos_with (by omega))
    rw [e] at p
    exact with_inj p
section
variable {P : Program} {w : World} {K : PySem.W.Frag} {mg : Str → Option Value} {base : Heap}
/-! is_state_of: slots 0:value 1:kind -/
abbrev s_is_state_of : Stmt := topS 64
theorem sc_is_state_of : FnScope ["value", "kind"] ["value", "kind"] (defScope s_is_state_of) := ⟨rfl, rfl, rfl, by decide +kernel, rfl, by decide +kernel, by decide +kernel⟩
def sp_is_state_of : Sp := fun vs H Q _ => ∃ (v : V) (st : Option Run) (k : Str), vs = [v, .str k] ∧ StG H v st ∧ StOk st ∧ (∀ r, st = some r → r.1 = k) ∧ ∀ H', Same H H' → Q (.bl true) H'
theorem ok_is_state_of (D : Df K mg "is_state_of" s_is_state_of) (G_is_state : Has P w K mg base 2 "is_state" ["value"] sp_is_state) : Has P w K mg base 3 "is_state_of" ["value", "kind"] sp_is_state_of := by
  refine has_of D sc_is_state_of (fun _ _ _ _ _ _ us hl => match us, hl with | [_, _], _ => rfl) (fun vs H Q E h => ?_) (fun f cdv A outer s₀ H vs Q E hr h => ?_)
  · obtain ⟨_, _, _, rfl, _⟩ := h
    rfl
  · obtain ⟨v, st, k, rfl, hv, so, sk, q⟩ := h
    refine ⟨_, (pss_one (ps_ret (pe_and (pe_callH G_is_state (hr.mono (by omega)) (by rfl) (pa_cons (pv 0) pa_nil)) (pe_one (pe_or (pe_cmpR op_isN (pv 0) pe_non (nomark _)) (pe_one (pe_cmpR op_eq (pe_ix ix_seq (pv 0) pe_int (fun _ _ => rfl)) (pv 1) (nomark _)))))))), ?_⟩
    refine ⟨_, rfl, v, st, rfl, hv, so, fun H1 s1 => ⟨true, rfl, iteP rfl ?_⟩⟩
    have hv1 := hv.same s1
    cases st with
    | none =>
      cases hv1
      exact ⟨_, rfl, rfl, _, rfl, iteP rfl (q _ s1)⟩
    | some r =>
      obtain ⟨t, rfl, ht⟩ := hv1
      have e := sk r rfl
      refine ⟨_, rfl, rfl, _, rfl, iteN rfl ⟨_, rfl, atSE ht rfl ⟨_, rfl, rfl, ?_⟩⟩⟩
      rw [decide_eq_true (show V.str r.1 = V.str k by rw [e])]
      exact q _ s1
/-! is_effects: slots 0:value 1:kind 2:effect -/
abbrev s_is_effects : Stmt := topS 63
theorem sc_is_effects : FnScope ["value", "kind", "effect"] ["value", "kind"] (defScope s_is_effects) := ⟨rfl, rfl, rfl, by decide +kernel, rfl, by decide +kernel, by decide +kernel⟩
/-- a list of effects for a kind -/
structure EffK (k : Str) (es : List (Option Run)) (c : Int) : Prop where
  len : 1 ≤ es.length ∧ es.length ≤ 401
  ok : ∀ e ∈ es, StOk e
  last : es.getLast? = some (withR k c)
  nn : 0 ≤ c
def sp_is_effects : Sp := fun vs H Q _ => ∃ (v : V) (k : Str) (es : List (Option Run)) (c : Int), vs = [v, .str k] ∧ StLG H v es ∧ EffK k es c ∧ ∀ H', Same H H' → Q (.bl true) H'
theorem with_kind {k : Str} {c : Int} {r : Run} (h : withR k c = some r) : r.1 = k := by
  unfold withR at h
  split at h
  · cases h
  · cases h
    rfl
theorem ok_is_effects (D : Df K mg "is_effects" s_is_effects) (T : Tx mg) (G_is_listed : Has P w K mg base 1 "is_listed" ["value", "most"] sp_is_listed) (G_is_state : Has P w K mg base 2 "is_state" ["value"] sp_is_state) (G_is_state_of : Has P w K mg base 3 "is_state_of" ["value", "kind"] sp_is_state_of) : Has P w K mg base 4 "is_effects" ["value", "kind"] sp_is_effects := by
  refine has_of D sc_is_effects (fun _ _ _ _ _ _ us hl => match us, hl with | [_, _], _ => rfl) (fun vs H Q E h => ?_) (fun f cdv A outer s₀ H vs Q E hr h => ?_)
  · obtain ⟨_, _, _, _, rfl, _⟩ := h
    rfl
  · obtain ⟨v, k, es, c, rfl, ⟨a, xs, rfl, hx, hp⟩, ef, q⟩ := h
    have lx : xs.length = es.length := Paired.len hp
    have el := ef.len
    refine ⟨_, (pss_cons (ps_if (PW.pt (pw_or (pt_not (pt_val (pe_callH G_is_listed (hr.mono (by omega)) (by rfl) (pa_cons (pv 0) (pa_cons (pe_glI T.c_MAX_EFFECTS (by rfl)) pa_nil))))) (pw_or (pt_cmpR op_eq (pe_callB call_len_seq (by rfl) T.n_len (by decide +kernel) (pa_cons (pv 0) pa_nil)) pe_int (nomark _)) (pw_or1 (pt_not (pt_val (pe_callB (cr_all rfl) (by rfl) T.n_all (by decide +kernel) (pa_cons (pe_lc (own := [("effect", 2)]) rfl sc_is_effects.nd (pi_seqV 0) (blkOk_by (N := ["value", "kind", "effect"]) (sc := defScope s_is_effects) (by decide +kernel)) (fun _ _ _ _ _ => (pg_name (i := 2) sc_is_effects.nd rfl (by first | exact Or.inl rfl | exact Or.inr rfl))) (fun _ _ _ _ _ => pts_nil) (fun _ _ _ _ _ => (pe_callH G_is_state (hr.mono (by omega)) (by rfl) (pa_cons (pv 2) pa_nil)))) pa_nil)))))))) (pss_one (ps_ret pe_bl)) pss_nil)
    (pss_one (ps_ret (pe_callH G_is_state_of (hr.mono (by omega)) (by rfl) (pa_cons (pe_ix ix_seq (pv 0) (pe_un un_neg pe_int) (fun _ _ => rfl)) (pa_cons (pv 1) pa_nil)))))), ?_⟩
    refine ⟨_, rfl, a, xs, 401, rfl, hx, fun H1 s1 => ⟨_, rfl, iteN ?_ ?_⟩⟩
    · rw [decide_eq_true (by omega)]
      rfl
    have hx1 := Sq2.sameE s1 hx
    refine ⟨_, rfl, a, xs, rfl, hx1.elim (fun z => .inl (.of z)) (fun z => .inr (.of z)), rfl, _, rfl, iteN (decide_eq_false (fun z => ?_)) ?_⟩
    · have : (xs.length : Int) = 0 := V.int.inj z
      omega
    refine ⟨a, xs, rfl, hx1, fun J wk L nL => lc_wk wk (fun i H' => Same H1 H' ∧ H' L = some (.lst ((List.replicate i true).map V.bl))) (fun _ _ p => p.1) ⟨same_upd nL, upd_same⟩ (fun i x H2 ex p => ?_) (fun H2 p => ?_)⟩
    · obtain ⟨sm, hL⟩ := p
      obtain ⟨st, er, hr1⟩ := Paired.at hp ex
      have hi : i < xs.length := (List.getElem?_eq_some_iff.mp ex).1
      refine ⟨rfl, yesT ⟨_, rfl, x, st, rfl, hr1.same (s1.trans sm), ef.ok st (List.mem_of_getElem? er), fun H3 s3 => ⟨_, s3 _ _ hL, ?_, same_grow nL (sm.trans s3), ?_⟩⟩⟩
      · simp only [List.length_map, List.length_replicate]
        exact small (by omega)
      · rw [upd_same, List.replicate_succ', List.map_append]
        rfl
    · refine ⟨L, _, rfl, .of p.2, _, rfl, iteN ?_ ?_⟩
      · rw [all_rep]
        rfl
      have s2 := s1.trans p.1
      have hx2 := Sq2.sameE s2 hx
      have hne : xs ≠ [] := fun z => by rw [z] at lx; have : es.length = 0 := lx.symm; omega
      obtain ⟨ys, y, exs⟩ : ∃ ys y, xs = ys ++ [y] := by
        rcases List.eq_nil_or_concat xs with e | ⟨ys, y, e⟩
        · exact absurd e hne
        · exact ⟨ys, y, by rw [e, List.concat_eq_append]⟩
      have exl : atI xs (-1) = some y := by
        rw [exs]
        exact atI_last _ _
      have hlast : StG H2 y (withR k c) := by
        have e1 : xs[xs.length - 1]? = some y := by
          rw [← List.getLast?_eq_getElem?, exs, List.getLast?_concat]
        obtain ⟨st, er, hr1⟩ := Paired.at hp e1
        have e2 := ef.last
        rw [List.getLast?_eq_getElem?, ← lx, er] at e2
        rw [← Option.some.inj e2]
        exact hr1.same s2
      have lok : StOk (withR k c) := ef.ok _ (List.mem_of_getLast? ef.last)
      exact ⟨_, rfl, _, rfl, atSE hx2 exl ⟨_, rfl, _, _, k, rfl, hlast, lok, (fun r e => with_kind e), fun H3 s3 => q _ (s2.trans s3)⟩⟩
/-! effect_of: slots 0:sequence 1:kind 2:items 3:effects 4:shift 5:least -/
abbrev s_effect_of : Stmt := topS 65
theorem sc_effect_of : FnScope ["sequence", "kind", "items", "effects", "shift", "least"] ["sequence", "kind"] (defScope s_effect_of) := ⟨rfl, rfl, rfl, by decide +kernel, rfl, by decide +kernel, by decide +kernel⟩
def sp_effect_of : Sp := fun vs H Q _ => ∃ (v : V) (rs : List Run) (k : Str), vs = [v, .str k] ∧ RunsG H v rs ∧ SeqOk rs ∧ lenR rs ≤ 400 ∧ KindOk k ∧ ∀ H' p es, Same H H' → H p = none → StL H' p es → EffOk (itR rs) k es → Q (.ref p) H'
theorem ok_effect_of (D : Df K mg "effect_of" s_effect_of) (T : Tx mg) (G_items_of : Has P w K mg base 7 "items_of" ["sequence"] sp_items_of) (G_check_kind : Has P w K mg base 2 "check_kind" ["kind"] sp_check_kind) (G_endings_of : Has P w K mg base 2 "endings_of" ["items"] sp_endings_of) (G_effects_up_to : Has P w K mg base 2 "effects_up_to" ["items", "endings", "kind", "most"] sp_effects_up_to)
    (G_shift_of : Has P w K mg base 1 "shift_of" ["items", "kind"] sp_shift_of) (G_state_with : Has P w K mg base 1 "state_with" ["kind", "number"] sp_state_with) : Has P w K mg base 8 "effect_of" ["sequence", "kind"] sp_effect_of := by
  refine has_of D sc_effect_of (fun _ _ _ _ _ _ us hl => match us, hl with | [_, _], _ => rfl) (fun vs H Q E h => ?_) (fun f cdv A outer s₀ H vs Q E hr h => ?_)
  · obtain ⟨_, _, _, rfl, _⟩ := h
    rfl
  · obtain ⟨v, rs, k, rfl, hR, ok, l4, kk, q⟩ := h
    have li := len_it rs fun r hr => (ok.2.1 r hr).2.1
    have il : (itR rs).length ≤ 400 := by omega
    have iok : ∀ x ∈ itR rs, KindOk x := fun x hx => by
      obtain ⟨r, hr, hk⟩ := List.mem_flatMap.mp hx
      rw [List.eq_of_mem_replicate hk]
      exact (ok.2.1 r hr).1
    refine ⟨_, (pss_cons (ps_set (i := 2) sc_effect_of.nd rfl (by first | exact Or.inl rfl | exact Or.inr rfl) (pe_callH G_items_of (hr.mono (by omega)) (by rfl) (pa_cons (pv 0) pa_nil)))
    (pss_cons (ps_expr (pe_callH G_check_kind (hr.mono (by omega)) (by rfl) (pa_cons (pv 1) pa_nil)))
    (pss_cons (ps_set (i := 3) sc_effect_of.nd rfl (by first | exact Or.inl rfl | exact Or.inr rfl) (pe_callH G_effects_up_to (hr.mono (by omega)) (by rfl) (pa_cons (pv 2) (pa_cons (pe_callH G_endings_of (hr.mono (by omega)) (by rfl) (pa_cons (pv 2) pa_nil)) (pa_cons (pv 1) (pa_cons (pe_callB call_len_seq (by rfl) T.n_len (by decide +kernel) (pa_cons (pv 2) pa_nil)) pa_nil))))))
    (pss_cons (ps_set (i := 4) sc_effect_of.nd rfl (by first | exact Or.inl rfl | exact Or.inr rfl) (pe_callH G_shift_of (hr.mono (by omega)) (by rfl) (pa_cons (pv 2) (pa_cons (pv 1) pa_nil))))
    (pss_cons (ps_set (i := 5) sc_effect_of.nd rfl (by first | exact Or.inl rfl | exact Or.inr rfl) (pe_callB call_len_seq (by rfl) T.n_len (by decide +kernel) (pa_cons (pv 2) pa_nil)))
    (pss_cons (ps_while PassesOwn.never (PW.pt (pw_and (pt_cmpR op_gt (pv 5) pe_int (nomark _)) (pw_and1 (pt_cmpR (op_eqD hr.units) (pe_ix ix_list (pv 3) (pe_op op_sub (pv 5) pe_int) (fun _ _ => rfl)) (pe_callH G_state_with (hr.mono (by omega)) (by rfl) (pa_cons (pv 1) (pa_cons (pe_op op_add (pe_op op_sub (pv 5) pe_int) (pv 4)) pa_nil))) (nomark _)))))
      (pss_one (ps_aug (i := 5) sc_effect_of.nd rfl (by first | exact Or.inl rfl | exact Or.inr rfl) pe_int ip_sub)))
    (pss_one (ps_ret (pe_slice sl_list (pv 3) po_none (po_some (pe_op op_add (pv 5) pe_int))))))))))), ?_⟩
    refine ⟨_, rfl, v, rs, rfl, hR, ok, l4, fun H1 p1 s1 n1 h1 => ?_⟩
    generalize itR rs = items at *
    have lm : (items.map V.str).length = items.length := List.length_map ..
    refine ⟨_, rfl, k, rfl, kk, fun H2 s2 => ?_⟩
    have h2 := s2 _ _ h1
    refine ⟨_, rfl, _, rfl, p1, items, rfl, h2, il, fun H3 e xs s3 ne he hE => ?_⟩
    have h3 := s3 _ _ h2
    refine ⟨_, rfl, _, rfl, p1, _, rfl, .inl (.of h3), p1, e, items, k, items.length, xs, by rw [lm]; rfl, h3, he, hE, Nat.le_refl _, il, fun H4 p4 es s4 n4 hes len val => ?_⟩
    have h4 := s4 _ _ h3
    have sA := s1.trans (s2.trans (s3.trans s4))
    have np4 : H p4 = none := (s1.trans (s2.trans s3)).free n4
    refine ⟨_, rfl, _, rfl, p1, items, k, rfl, h4, ?_⟩
    refine ⟨_, rfl, p1, _, rfl, .inl (.of h4), ?_⟩
    rw [lm]
    have eok : ∀ n : Nat, StOk (fxR items k n) := fun n => stOk_stI items _ iok (ok_with kk (by omega))
    refine ⟨fun m σ H' => ∃ l : Nat, σ = [some v, some (.str k), some (.ref p1), some (.ref p4), some (.int (chR items k)), some (.int l)] ∧ l = m ∧ Same H4 H' ∧ l ≤ items.length ∧ ∀ m : Nat, l ≤ m → m ≤ items.length → fxR items k m = withR k (m + chR items k), ⟨_, items.length, rfl, rfl, Same.refl _, Nat.le_refl _, fun m m1 m2 => ?_⟩, fun m σ H5 hP => ?_⟩
    · have : m = items.length := by omega
      subst this
      exact fx_far k items _ (Int.le_refl _)
    obtain ⟨l, rfl, rfl, s5, ll, far⟩ := hP
    obtain ⟨zs, hz, hpz⟩ := hes.same s5
    have lz := Paired.len hpz
    have out : ∀ (H6 : Hp), Same H5 H6 → ∀ c, H6 c = none → Q (.ref c) (upd H6 c (.lst (cutV zs none (some ((l : Int) + 1))))) := fun H6 s6 c nc => by
      have e1 : cutV zs none (some ((l : Int) + 1)) = zs.take (l + 1) := by
        have := cut_takeE zs (l + 1) (by omega)
        rw [show ((l + 1 : Nat) : Int) = (l : Int) + 1 by omega] at this
        exact this
      have sc := same_upd (o := .lst (cutV zs none (some ((l : Int) + 1)))) nc
      refine q _ c (es.take (l + 1)) (sA.trans (s5.trans (s6.trans sc))) ((sA.trans (s5.trans s6)).free nc) ⟨_, upd_same, ?_⟩ (eff_of len val ll far)
      rw [e1]
      have := paired_take (l + 1) (sts_same (s6.trans sc) hpz)
      rw [e1] at this
      exact this
    refine ⟨_, rfl, _, _, rfl, rfl, _, rfl, ite2 (fun e1 => ?_) (fun e1 => ?_)⟩
    · have e1 : 0 < (l : Int) := of_decide_eq_true e1
      have hl1 : l - 1 < es.length := by omega
      have ve := val (l - 1) (by omega)
      obtain ⟨x, hx, hxs⟩ := Paired.at' hpz ve
      have ex : atI zs ((l : Int) - 1) = some x := atI_ofR (by omega) (by rw [show ((l : Int) - 1).toNat = l - 1 by omega]; exact hx)
      refine ⟨_, rfl, _, rfl, _, _, rfl, rfl, p4, zs, _, x, rfl, rfl, .of hz, ex, _, rfl, _, rfl, _, _, rfl, rfl, _, rfl, _, _, rfl, rfl, k, _, rfl, fun H6 u s6 hu => ?_⟩
      refine ⟨dOt (fxR items k ((l - 1 : Nat) : Int)), dOt (withR k ((l : Int) - 1 + chR items k)), dp_o (hxs.same s6), dp_o hu, shaped_o (eok _), shaped_w kk, _, rfl, ?_⟩
      rw [eqv_o]
      refine ite2 (fun e2 => ?_) (fun e2 => ?_)
      · have e2 := of_decide_eq_true e2
        refine ⟨fun σ' H' => ∃ l' : Nat, σ' = [some v, some (.str k), some (.ref p1), some (.ref p4), some (.int (chR items k)), some (.int l')] ∧ l' < l ∧ Same H4 H' ∧ l' ≤ items.length ∧ ∀ m : Nat, l' ≤ m → m ≤ items.length → fxR items k m = withR k (m + chR items k), fun σ' H' z => ?_, ?_⟩
        · obtain ⟨l', a1, a2, r⟩ := z
          exact ⟨_, a2, l', a1, rfl, r⟩
        refine ⟨_, rfl, _, _, rfl, rfl, l - 1, ?_, by omega, s5.trans s6, by omega, fun m m1 m2 => ?_⟩
        · show [_, _, _, _, _, some (V.int ((l : Int) - 1))] = _
          rw [show ((l : Int) - 1) = ((l - 1 : Nat) : Int) by omega]
        · by_cases em : m = l - 1
          · rw [em, e2, show ((l : Int) - 1) = ((l - 1 : Nat) : Int) by omega]
          · exact far m (by omega) m2
      · exact ⟨_, rfl, _, rfl, _, _, rfl, rfl, _, rfl, p4, zs, rfl, .of (s6 _ _ hz), fun c nc => out _ s6 c nc⟩
    · exact iteN rfl ⟨_, rfl, _, rfl, _, _, rfl, rfl, _, rfl, p4, zs, rfl, .of hz, fun c nc => out _ (Same.refl _) c nc⟩
/-! effect_on: slots 0:effects 1:kind 2:state 3:number 4:least -/
abbrev s_effect_on : Stmt := topS 66
theorem sc_effect_on : FnScope ["effects", "kind", "state", "number", "least"] ["effects", "kind", "state"] (defScope s_effect_on) := ⟨rfl, rfl, rfl, by decide +kernel, rfl, by decide +kernel, by decide +kernel⟩
def sp_effect_on : Sp := fun vs H Q _ => ∃ (v u : V) (k : Str) (es : List (Option Run)) (c n : Int), vs = [v, .str k, u] ∧ StLG H v es ∧ EffK k es c ∧ KindOk k ∧ StG H u (withR k n) ∧ 0 ≤ n ∧
  (∀ e, n < es.length → es[n.toNat]? = some e → ∀ H' v', Same H H' → StV H' v' e → Q v' H') ∧ ((es.length : Int) ≤ n → ∀ H' v', Same H H' → StV H' v' (withR k (c + n - (es.length - 1))) → Q v' H')
theorem ok_effect_on (D : Df K mg "effect_on" s_effect_on) (T : Tx mg) (G_check_kind : Has P w K mg base 2 "check_kind" ["kind"] sp_check_kind) (G_is_effects : Has P w K mg base 4 "is_effects" ["value", "kind"] sp_is_effects) (G_is_state_of : Has P w K mg base 3 "is_state_of" ["value", "kind"] sp_is_state_of)
    (G_waiting_number : Has P w K mg base 1 "waiting_number" ["state"] sp_waiting_number) (G_checked_state : Has P w K mg base 3 "checked_state" ["state"] sp_checked_state) (G_state_with : Has P w K mg base 1 "state_with" ["kind", "number"] sp_state_with) : Has P w K mg base 5 "effect_on" ["effects", "kind", "state"] sp_effect_on := by
  refine has_of D sc_effect_on (fun _ _ _ _ _ _ us hl => match us, hl with | [_, _, _], _ => rfl) (fun vs H Q E h => ?_) (fun f cdv A outer s₀ H vs Q E hr h => ?_)
  · obtain ⟨_, _, _, _, _, _, rfl, _⟩ := h
    rfl
  · obtain ⟨v, u, k, es, c, n, rfl, hv, ef, kk, hu, n0, q1, q2⟩ := h
    have el := ef.len
    have nu : numR (withR k n) = n := by
      unfold withR
      split
      · rename_i z
        rw [z]
        rfl
      · rfl
    have nc : numR (withR k c) = c := by
      unfold withR
      split
      · rename_i z
        rw [z]
        rfl
      · rfl
    refine ⟨_, (pss_cons (ps_expr (pe_callH G_check_kind (hr.mono (by omega)) (by rfl) (pa_cons (pv 1) pa_nil)))
    (pss_cons (ps_if (pt_not (pt_val (pe_callH G_is_effects (hr.mono (by omega)) (by rfl) (pa_cons (pv 0) (pa_cons (pv 1) pa_nil))))) (pss_one ps_never) pss_nil)
    (pss_cons (ps_if (pt_not (pt_val (pe_callH G_is_state_of (hr.mono (by omega)) (by rfl) (pa_cons (pv 2) (pa_cons (pv 1) pa_nil))))) (pss_one ps_never) pss_nil)
    (pss_cons (ps_set (i := 3) sc_effect_on.nd rfl (by first | exact Or.inl rfl | exact Or.inr rfl) (pe_callH G_waiting_number (hr.mono (by omega)) (by rfl) (pa_cons (pv 2) pa_nil)))
    (pss_cons (ps_set (i := 4) sc_effect_on.nd rfl (by first | exact Or.inl rfl | exact Or.inr rfl) (pe_op op_sub (pe_callB call_len_seq (by rfl) T.n_len (by decide +kernel) (pa_cons (pv 0) pa_nil)) pe_int))
    (pss_cons (ps_if (pt_cmpR op_le (pv 3) (pv 4) (nomark _)) (pss_one (ps_ret (pe_callH G_checked_state (hr.mono (by omega)) (by rfl) (pa_cons (pe_ix ix_seq (pv 0) (pv 3) (fun _ _ => rfl)) pa_nil)))) pss_nil)
    (pss_one (ps_ret (pe_callH G_state_with (hr.mono (by omega)) (by rfl) (pa_cons (pv 1) (pa_cons (pe_op op_sub (pe_op op_add (pe_callH G_waiting_number (hr.mono (by omega)) (by rfl) (pa_cons (pe_ix ix_seq (pv 0) (pv 4) (fun _ _ => rfl)) pa_nil)) (pv 3)) (pv 4)) pa_nil))))))))))), ?_⟩
    refine ⟨_, rfl, k, rfl, kk, fun H1 s1 => ?_⟩
    refine ⟨_, rfl, _, rfl, v, k, es, c, rfl, hv.same s1, ef, fun H2 s2 => ⟨_, rfl, iteN rfl ?_⟩⟩
    have s2 := s1.trans s2
    refine ⟨_, rfl, _, rfl, u, _, k, rfl, hu.same s2, ok_with kk n0, (fun r e => with_kind e), fun H3 s3 => ⟨_, rfl, iteN rfl ?_⟩⟩
    have s3 := s2.trans s3
    refine ⟨_, rfl, u, _, rfl, hu.same s3, ?_⟩
    rw [nu]
    obtain ⟨a, xs, rfl, hx, hp⟩ := hv.same s3
    have lx : xs.length = es.length := Paired.len hp
    refine ⟨_, rfl, a, xs, rfl, hx.elim (fun z => .inl (.of z)) (fun z => .inr (.of z)), _, _, rfl, rfl, ?_⟩
    refine ⟨_, rfl, _, rfl, _, _, rfl, rfl, _, rfl, ite2 (fun e1 => ?_) (fun e1 => ?_)⟩
    · have e1 : n ≤ (xs.length : Int) - 1 := of_decide_eq_true e1
      have hn : n.toNat < xs.length := by omega
      obtain ⟨st, er, hr1⟩ := Paired.at hp (List.getElem?_eq_getElem hn)
      exact ⟨_, rfl, _, rfl, atSE hx (atI_ofR n0 (List.getElem?_eq_getElem hn)) ⟨_, st, rfl, hr1, ef.ok st (List.mem_of_getElem? er), fun H4 v4 s4 h4 => q1 st (by omega) er _ _ (s3.trans s4) h4⟩⟩
    · have e1 : ¬ n ≤ (xs.length : Int) - 1 := fun z => e1 (decide_eq_true z)
      have hn : xs.length - 1 < xs.length := by omega
      obtain ⟨st, er, hr1⟩ := Paired.at hp (List.getElem?_eq_getElem hn)
      have est : st = withR k c := by
        have e2 := ef.last
        rw [List.getLast?_eq_getElem?, ← lx, er] at e2
        exact Option.some.inj e2
      subst est
      refine ⟨_, rfl, _, rfl, _, rfl, atSE hx (atI_ofR (by omega) (by rw [show ((xs.length : Int) - 1).toNat = xs.length - 1 by omega]; exact List.getElem?_eq_getElem hn)) ⟨_, _, rfl, hr1, ?_⟩⟩
      rw [nc]
      refine ⟨_, rfl, _, _, rfl, rfl, _, rfl, _, _, rfl, rfl, k, _, rfl, fun H4 v4 s4 h4 => q2 (by omega) _ _ (s3.trans s4) ?_⟩
      rw [← lx]
      exact h4
end
end UP

set_option Elab.async false
set_option linter.all false
set_option maxRecDepth 100000
set_option maxHeartbeats 4000000
set_option pp.maxSteps 500
namespace UP
open PySem PySem.Spec PyProof.Rows L2
section
variable {P : Program} {w : World} {K : PySem.W.Frag} {mg : Str → Option Value} {base : Heap}
/-! after_rounds: slots 0:sequence 1:rounds 2:state 3:runs 4:growth 5:falling 6:states -/
abbrev s_after_rounds : Stmt := topS 49
theorem sc_after_rounds : FnScope ["sequence", "rounds", "state", "runs", "growth", "falling", "states"] ["sequence", "rounds", "state"] (defScope s_after_rounds) := ⟨rfl, rfl, rfl, by decide +kernel, rfl, by decide +kernel, by decide +kernel⟩
def sp_after_rounds : Sp := fun vs H Q _ => ∃ (v z : V) (rs : List Run) (st : Option Run) (n : Int), vs = [v, .int n, z] ∧ RunsG H v rs ∧ SeqOk rs ∧ lenR rs ≤ 400 ∧ 0 ≤ n ∧ n ≤ 1000000000000000000000000000000 ∧ StG H z st ∧ StOk st ∧ ∀ H' v', Same H H' → StV H' v' (itS rs st n.toNat) → Q v' H'
theorem ok_after_rounds (D : DfD K mg "after_rounds" s_after_rounds [.non]) (T : Tx mg) (G_checked_short_runs : Has P w K mg base 6 "checked_short_runs" ["sequence"] sp_checked_short_runs) (G_is_within : Has P w K mg base 2 "is_within" ["value", "low", "high"] sp_is_within) (G_checked_state : Has P w K mg base 3 "checked_state" ["state"] sp_checked_state) (G_growth_in : Has P w K mg base 7 "growth_in" ["runs"] sp_growth_in)
    (G_falling_rounds : Has P w K mg base 3 "falling_rounds" ["runs", "state"] sp_falling_rounds) (G_course_of : HasDv (.int 1000000000000000000000000000000) P w K mg base 4 "course_of" ["runs", "growth", "state", "most"] 3 sp_course_of) (G_fallen : Has P w K mg base 3 "fallen" ["runs", "state", "rounds"] sp_fallen) (G_continued : Has P w K mg base 1 "continued" ["states", "growth", "rounds"] sp_continued) :
    HasD P w K mg base 8 "after_rounds" ["sequence", "rounds", "state"] 2 "state" sp_after_rounds := by
  refine has_ofD D sc_after_rounds rfl (fun T kV doc pm an cdv ct us its h1 h2 => ?_) (fun T kV doc pm an cdv ct us its h1 h2 => ?_) (fun T kV doc pm an cdv ct us its v h1 h2 => ?_) (fun vs H Q E h => ?_) (fun f cdv A outer s₀ H vs Q E hr h => ?_)
  · match us, its, h1, h2 with
    | [_, _, _], [_], _, _ => exact ⟨_, rfl, rfl⟩
  · match us, its, h1, h2 with
    | [_, _], [_], _, _ => exact ⟨_, rfl, rfl⟩
  · match us, its, h1, h2 with
    | [_, _], [_], _, _ => exact ⟨_, rfl, rfl⟩
  · obtain ⟨_, _, _, _, _, rfl, _⟩ := h
    rfl
  · obtain ⟨v, z, rs, st, n, rfl, hv, ok, l4, n0, n1, hz, so, q⟩ := h
    have pos : ∀ r ∈ rs, 1 ≤ r.2 := fun r hr => (ok.2.1 r hr).2.1
    refine ⟨_, (pss_cons (ps_set (i := 3) sc_after_rounds.nd rfl (by first | exact Or.inl rfl | exact Or.inr rfl) (pe_callH G_checked_short_runs (hr.mono (by omega)) (by rfl) (pa_cons (pv 0) pa_nil)))
    (pss_cons (ps_if (pt_not (pt_val (pe_callH G_is_within (hr.mono (by omega)) (by rfl) (pa_cons (pv 1) (pa_cons pe_int (pa_cons (pe_glI T.c_MAX_ROUNDS (by rfl)) pa_nil)))))) (pss_one ps_never) pss_nil)
    (pss_cons (ps_set (i := 2) sc_after_rounds.nd rfl (by first | exact Or.inl rfl | exact Or.inr rfl) (pe_callH G_checked_state (hr.mono (by omega)) (by rfl) (pa_cons (pv 2) pa_nil)))
    (pss_cons (ps_set (i := 4) sc_after_rounds.nd rfl (by first | exact Or.inl rfl | exact Or.inr rfl) (pe_callH G_growth_in (hr.mono (by omega)) (by rfl) (pa_cons (pv 3) pa_nil)))
    (pss_cons (ps_set (i := 5) sc_after_rounds.nd rfl (by first | exact Or.inl rfl | exact Or.inr rfl) (pe_callB (call_min2 rfl) (by rfl) T.n_min (by decide +kernel) (pa_cons (pv 1) (pa_cons (pe_callH G_falling_rounds (hr.mono (by omega)) (by rfl) (pa_cons (pv 3) (pa_cons (pv 2) pa_nil))) pa_nil))))
    (pss_cons (ps_set (i := 6) sc_after_rounds.nd rfl (by first | exact Or.inl rfl | exact Or.inr rfl) (pe_callH G_course_of.has (hr.mono (by omega)) (by rfl) (pa_cons (pv 3) (pa_cons (pv 4) (pa_cons (pe_callH G_fallen (hr.mono (by omega)) (by rfl) (pa_cons (pv 3) (pa_cons (pv 2) (pa_cons (pv 5) pa_nil)))) (pa_cons (pe_op op_sub (pv 1) (pv 5)) pa_nil))))))
    (pss_one (ps_ret (pe_callH G_continued (hr.mono (by omega)) (by rfl) (pa_cons (pv 6) (pa_cons (pv 4) (pa_cons (pe_op op_sub (pv 1) (pv 5)) pa_nil)))))))))))), ?_⟩
    refine ⟨_, rfl, v, rs, rfl, hv, ok, l4, fun H1 p s1 np hp => ?_⟩
    refine ⟨_, rfl, n, 0, _, rfl, _, rfl, iteN ?_ ?_⟩
    · rw [decide_eq_true (by omega : 0 ≤ n ∧ n ≤ 1000000000000000000000000000000)]
      rfl
    refine ⟨_, rfl, z, st, rfl, hz.same s1, so, fun H2 v2 s2 h2 => ?_⟩
    have nb : n.natAbs < 2 ^ 100 := Nat.lt_of_le_of_lt (m := 1000000000000000000000000000000) (by omega) (by decide)
    obtain ⟨k, af, ea⟩ := rounds_all (n := n) ok l4 so n0
    rw [← ea] at q
    have s12 := s1.trans s2
    refine ⟨_, rfl, p, _, rfl, hp.same s2, ok, l4, fun H3 v3 s3 h3 => ?_⟩
    refine ⟨_, rfl, _, rfl, _, rfl, p, _, v2, _, rfl, (hp.same s2).same s3, ok, l4, h2.same s3, fun H4 s4 => ?_⟩
    have fb := ff_bd (rs := rs) (st := st) n0
    have s24 := s3.trans s4
    refine ⟨_, _, rfl, ?_⟩
    have em : (if frR rs st < n then frR rs st else n) = ff rs st n := rfl
    rw [em]
    refine ⟨_, rfl, _, rfl, _, rfl, _, rfl, _, rfl, p, _, v2, _, _, rfl, (hp.same s2).same s24, ok, l4, h2.same s24, fun h => fr_some h fb.1 fb.2.2, Nat.lt_of_le_of_lt (m := n.natAbs) (by omega) (Nat.lt_of_lt_of_le nb (Nat.pow_le_pow_right (by decide) (by decide))), fun H5 v5 s5 h5 => ?_⟩
    have s25 := s24.trans s5
    refine ⟨_, rfl, _, rfl, _, _, rfl, rfl, p, _, v3, v5, _, _, _, k, rfl, (hp.same s2).same s25, ok, (h3.same s4).same s5, h5, af.ce, af.few, fun H6 p6 s6 n6 h6 => ?_⟩
    have fo := fn_ok pos so fb.1 fb.2.2
    refine ⟨_, rfl, _, rfl, _, rfl, _, rfl, _, _, rfl, rfl, p6, v3, _, _, _, rfl, h6, ((h3.same s4).same s5).same s6, crs_ok ok.kinds fo, ?_, ?_, ?_, ?_, ?_, fun H7 v7 s7 h7 => q _ _ (s12.trans (s25.trans (s6.trans s7))) h7⟩
    · intro e
      have := congrArg List.length e
      rw [crs_len] at this
      cases this
    · rw [crs_len]
      have := af.few
      omega
    · omega
    · exact Nat.lt_of_le_of_lt (m := n.natAbs) (by omega) (Nat.lt_of_lt_of_le nb (Nat.pow_le_pow_right (by decide) (by decide)))
    · rw [crs_len, crs_last]
      intro hk
      refine ⟨fun e => ?_, fun g0 e => ⟨af.gro (by rw [e]; intro z; cases z) (by omega), gr_small pos l4 e⟩⟩
      have := af.ret e (by omega)
      omega
/-! return_of: slots 0:sequence 1:state 2:runs 3:falling 4:states 5:start -/
abbrev s_return_of : Stmt := topS 51
theorem sc_return_of : FnScope ["sequence", "state", "runs", "falling", "states", "start"] ["sequence", "state"] (defScope s_return_of) := ⟨rfl, rfl, rfl, by decide +kernel, rfl, by decide +kernel, by decide +kernel⟩
/-- where a state of a sequence without growth comes again -/
def RetR (rs : List Run) (st : Option Run) (a b : Int) : Prop := ∃ k j : Nat, CEnd rs none 1000000000000000000000000000000 (fnR rs st (frR rs st)) k ∧ j < k ∧ itS rs (fnR rs st (frR rs st)) j = itS rs (fnR rs st (frR rs st)) k ∧ a = frR rs st + (j : Int) ∧ b = (k : Int) - (j : Int)
def sp_return_of : Sp := fun vs H Q _ => ∃ (v z : V) (rs : List Run) (st : Option Run), vs = [v, z] ∧ RunsG H v rs ∧ SeqOk rs ∧ lenR rs ≤ 400 ∧ StG H z st ∧ StOk st ∧ (∀ r, st = some r → r.2.natAbs < 2 ^ 400000) ∧ (grR rs ≠ none → ∀ H', Same H H' → Q .non H') ∧
  (grR rs = none → ∀ H' t a b, Same H H' → H' t = some (.tup [.int a, .int b]) → RetR rs st a b → Q (.ref t) H')
theorem ok_return_of (D : DfD K mg "return_of" s_return_of [.non]) (T : Tx mg) (G_checked_short_runs : Has P w K mg base 6 "checked_short_runs" ["sequence"] sp_checked_short_runs) (G_checked_state : Has P w K mg base 3 "checked_state" ["state"] sp_checked_state) (G_growth_in : Has P w K mg base 7 "growth_in" ["runs"] sp_growth_in)
    (G_falling_rounds : Has P w K mg base 3 "falling_rounds" ["runs", "state"] sp_falling_rounds) (G_course_of : HasDv (.int 1000000000000000000000000000000) P w K mg base 4 "course_of" ["runs", "growth", "state", "most"] 3 sp_course_of) (G_fallen : Has P w K mg base 3 "fallen" ["runs", "state", "rounds"] sp_fallen) :
    HasD P w K mg base 8 "return_of" ["sequence", "state"] 1 "state" sp_return_of := by
  refine has_ofD D sc_return_of rfl (fun T kV doc pm an cdv ct us its h1 h2 => ?_) (fun T kV doc pm an cdv ct us its h1 h2 => ?_) (fun T kV doc pm an cdv ct us its v h1 h2 => ?_) (fun vs H Q E h => ?_) (fun f cdv A outer s₀ H vs Q E hr h => ?_)
  · match us, its, h1, h2 with
    | [_, _], [_], _, _ => exact ⟨_, rfl, rfl⟩
  · match us, its, h1, h2 with
    | [_], [_], _, _ => exact ⟨_, rfl, rfl⟩
  · match us, its, h1, h2 with
    | [_], [_], _, _ => exact ⟨_, rfl, rfl⟩
  · obtain ⟨_, _, _, _, rfl, _⟩ := h
    rfl
  · obtain ⟨v, z, rs, st, rfl, hv, ok, l4, hz, so, sb, qg, qn⟩ := h
    have pos : ∀ r ∈ rs, 1 ≤ r.2 := fun r hr => (ok.2.1 r hr).2.1
    have ps : PosO st := fun r e => (so r e).2
    refine ⟨_, (pss_cons (ps_set (i := 2) sc_return_of.nd rfl (by first | exact Or.inl rfl | exact Or.inr rfl) (pe_callH G_checked_short_runs (hr.mono (by omega)) (by rfl) (pa_cons (pv 0) pa_nil)))
    (pss_cons (ps_set (i := 1) sc_return_of.nd rfl (by first | exact Or.inl rfl | exact Or.inr rfl) (pe_callH G_checked_state (hr.mono (by omega)) (by rfl) (pa_cons (pv 1) pa_nil)))
    (pss_cons (ps_if (pt_cmpR op_notN (pe_callH G_growth_in (hr.mono (by omega)) (by rfl) (pa_cons (pv 2) pa_nil)) pe_non (nomark _)) (pss_one (ps_ret pe_non)) pss_nil)
    (pss_cons (ps_set (i := 3) sc_return_of.nd rfl (by first | exact Or.inl rfl | exact Or.inr rfl) (pe_callH G_falling_rounds (hr.mono (by omega)) (by rfl) (pa_cons (pv 2) (pa_cons (pv 1) pa_nil))))
    (pss_cons (ps_set (i := 4) sc_return_of.nd rfl (by first | exact Or.inl rfl | exact Or.inr rfl) (pe_callDv G_course_of (hr.mono (by omega)) (by rfl) (pa_cons (pv 2) (pa_cons pe_non (pa_cons (pe_callH G_fallen (hr.mono (by omega)) (by rfl) (pa_cons (pv 2) (pa_cons (pv 1) (pa_cons (pv 3) pa_nil)))) pa_nil)))))
    (pss_cons (ps_set (i := 5) sc_return_of.nd rfl (by first | exact Or.inl rfl | exact Or.inr rfl) (pe_bm PySem.F.plainAttrs_list PySem.F.slot_list_index PySem.F.type_list_index (mt_indexD (room65 hr)) (pv 4) (pa_cons (pe_ix ix_list (pv 4) (pe_un un_neg pe_int) (fun _ _ => rfl)) pa_nil)))
    (pss_one (ps_ret (pe_tup (pa_cons (pe_op op_add (pv 3) (pv 5)) (pa_cons (pe_op op_sub (pe_op op_sub (pe_callB call_len_seq (by rfl) T.n_len (by decide +kernel) (pa_cons (pv 4) pa_nil)) pe_int) (pv 5)) pa_nil))))))))))), ?_⟩
    refine ⟨_, rfl, v, rs, rfl, hv, ok, l4, fun H1 p s1 np hp => ?_⟩
    refine ⟨_, rfl, z, st, rfl, hz.same s1, so, fun H2 v2 s2 h2 => ?_⟩
    have s12 := s1.trans s2
    refine ⟨_, rfl, p, _, rfl, hp.same s2, ok, l4, fun H3 v3 s3 h3 => ?_⟩
    cases eg : grR rs with
    | some g =>
      rw [eg] at h3
      obtain ⟨tg, rfl, _⟩ := h3
      exact ⟨rfl, _, rfl, iteP rfl (qg (by rw [eg]; intro z; cases z) _ (s12.trans s3))⟩
    | none =>
      rw [eg] at h3
      cases h3
      refine ⟨rfl, _, rfl, iteN rfl ?_⟩
      have fpos : PosO (fnR rs st (frR rs st)) := fun r e => (fn_ok (n := frR rs st) pos so frR_nonneg (Int.le_refl _) r e).2
      obtain ⟨k, few, ce⟩ := course_stay (N := 1000000000000000000000000000000) pos l4 eg fpos (fallen_low pos ps)
      obtain ⟨j, hj, ej⟩ : ∃ j, j < k ∧ itS rs (fnR rs st (frR rs st)) j = itS rs (fnR rs st (frR rs st)) k := by
        rcases ce.stop with h | h | h
        · omega
        · cases h
        · exact h
      have q9 := qn eg
      refine ⟨_, rfl, _, rfl, p, _, v2, _, rfl, (hp.same s2).same s3, ok, l4, h2.same s3, fun H4 s4 => ?_⟩
      have s24 := s3.trans s4
      have fbits : (frR rs st).natAbs < 2 ^ 500000 := by
        have h5 : (2 : Nat) ^ 400000 < 2 ^ 500000 := Nat.pow_lt_pow_right (by decide) (by decide)
        have h0 := frR_nonneg (rs := rs) (st := st)
        cases st with
        | none => exact Nat.pow_pos (by decide)
        | some r =>
          have r1 := ps r rfl
          have h1 : frR rs (some r) ≤ r.2 + 1 := by
            show (if r.2 < lenR rs ∨ fallR rs r.1 ≤ 0 then 0 else (r.2 - lenR rs) / fallR rs r.1 + 1) ≤ r.2 + 1
            split
            · omega
            · rename_i c
              have c1 : ¬ r.2 < lenR rs := fun z => c (.inl z)
              have := Int.ediv_le_self (a := r.2 - lenR rs) (fallR rs r.1) (by omega)
              have := len_nonneg pos
              omega
          have h2 := sb r rfl
          generalize (2 : Nat) ^ 400000 = A at h2 h5
          generalize (2 : Nat) ^ 500000 = B at h5 ⊢
          omega
      refine ⟨_, rfl, _, rfl, _, rfl, _, rfl, p, _, v2, _, _, rfl, (hp.same s2).same s24, ok, l4, h2.same s24, fun h => fr_some h frR_nonneg (Int.le_refl _), fbits, fun H5 v5 s5 h5 => ?_⟩
      have s25 := s24.trans s5
      refine ⟨p, _, .non, v5, none, _, _, k, rfl, (hp.same s2).same s25, ok, rfl, h5, ce, few, fun H6 p6 s6 n6 h6 => ?_⟩
      have fo := fn_ok (n := frR rs st) pos so frR_nonneg (Int.le_refl _)
      obtain ⟨xs, vl, hx, lx, evl, hvl⟩ := h6.at (crs_at (Nat.le_refl k))
      rw [crs_len] at lx
      have oks := crs_ok (n := k) ok.kinds fo
      have neg1 : atI xs (-1) = some vl := by
        rcases List.eq_nil_or_concat xs with z | ⟨ys, y, z⟩
        · rw [z] at lx
          cases lx
        · rw [List.concat_eq_append] at z
          subst z
          rw [List.length_append] at lx
          have lx : ys.length = k := by simpa using lx
          rw [List.getElem?_append_right (by omega), lx, Nat.sub_self] at evl
          cases evl
          exact atI_last _ _
      refine ⟨_, rfl, .inl ⟨rfl, _, SqL.of hx⟩, _, rfl, 1, rfl, p6, xs, -1, vl, rfl, rfl, .of hx, neg1, p6, vl, dOt (itS rs (fnR rs st (frR rs st)) k), (courseR rs (fnR rs st (frR rs st)) k).map dOt, j, dOt (itS rs (fnR rs st (frR rs st)) j), rfl, rfl, dp_stsC h6, dp_o hvl, shaped_stsC oks, shaped_o (itS_ok ok.kinds fo k), by rw [List.getElem?_map, crs_at (by omega)]; rfl, by rw [eqv_o, ej]; exact decide_eq_true rfl, fun i z hi e => ?_, ?_⟩
      · rw [List.getElem?_map, crs_at (by omega)] at e
        cases e
        rw [eqv_o, ← ej]
        exact decide_eq_false fun z => (ce.go j hj).2.2 i hi z
      · refine ⟨_, rfl, _, rfl, _, _, rfl, rfl, _, rfl, p6, xs, rfl, .inl (.of hx), _, _, rfl, rfl, _, rfl, _, _, rfl, rfl, (by show 2 ≤ sizeLine; decide), fun t nt => ?_⟩
        refine q9 _ t _ _ (s12.trans (s25.trans (s6.trans (same_upd nt)))) upd_same ⟨k, j, ce, hj, ej, rfl, ?_⟩
        rw [lx]
        omega
end
end UP

set_option Elab.async false
set_option linter.all false
set_option maxRecDepth 100000
set_option maxHeartbeats 1000000
namespace UP
open PySem PySem.Spec PyProof.Rows L2
/-- what waits at the end of its kind: no more than came, or it never was away -/
theorem top_stI {k : Str} : ∀ (l : List Str) (s : Option Run) (m : Int), PosO s → stI l s = some (k, m) → m ≤ ((l.count k : Nat) : Int) ∨ ∃ n, s = some (k, n) ∧ m = n + chR l k
  | [], s, m, _, h => .inr ⟨m, h, by show m = m + 0; omega⟩
  | x :: t, s, m, ps, h => by
    have ih := top_stI t (stepR s x 1) m (stepR_pos ps (by decide)) h
    have up : ((t.count k : Nat) : Int) ≤ (((x :: t).count k : Nat) : Int) := by
      rw [List.count_cons]
      omega
    rcases ih with c | ⟨n, e, en⟩
    · exact .inl (Int.le_trans c up)
    · rw [chR_cons]
      cases s with
      | none =>
        have e : some (x, (1 : Int)) = some (k, n) := e
        cases e
        left
        have h1 := chR_cnt k t
        have h2 : t.count k ≤ t.length := List.count_le_length
        rw [List.count_cons_self]
        omega
      | some r =>
        right
        have r1 := ps r rfl
        by_cases xr : r.1 = x
        · rw [step_same xr] at e
          cases e
          refine ⟨r.2, by rw [← xr], ?_⟩
          rw [if_pos rfl]
          omega
        · rw [step_other xr] at e
          by_cases c : 0 < r.2 - 1
          · rw [if_pos c] at e
            cases e
            refine ⟨r.2, rfl, ?_⟩
            rw [if_neg (fun z => xr z.symm)]
            omega
          · rw [if_neg c, if_pos (by omega)] at e
            cases e
/-- a state that falls does not come again -/
theorem not_back {rs : List Run} {k : Str} {m : Int} (pos : ∀ r ∈ rs, 1 ≤ r.2) (l : lenR rs ≤ m) (f : 0 < fallR rs k) {p : Nat} (p1 : 1 ≤ p) : itS rs (some (k, m)) p ≠ some (k, m) := by
  intro e
  have c0 := cntK_pos (k := k) pos
  have fe : fallR rs k = lenR rs - 2 * cntK rs k := rfl
  have m1 : 1 ≤ m := by omega
  have ps : PosO (some (k, m)) := fun r h => by cases h; exact m1
  have t := two_period pos ps p1 e
  have e1 : itS rs (some (k, m)) 1 = withR k (m - fallR rs k) := by
    show stR rs (some (k, m)) = _
    rw [← with_self (r := (k, m)) m1]
    exact far_round pos l
  have t : stR rs (itS rs (some (k, m)) 1) = some (k, m) := t
  rw [e1, st_items _ _ (pos_with (by omega)) pos] at t
  rcases top_stI _ _ _ (pos_with (by omega)) t with c | ⟨n, e, en⟩
  · rw [← cntK_it k pos] at c
    omega
  · rw [ch_fall pos] at en
    unfold withR at e
    split at e
    · cases e
    · cases e
      omega
/-- a state comes again for the first time: the state a, behind p rounds -/
def IsRet (rs : List Run) (s : Option Run) (a p : Nat) : Prop := 1 ≤ p ∧ itS rs s a = itS rs s (a + p) ∧ ∀ i j, i < j → j < a + p → itS rs s i ≠ itS rs s j
theorem isRet_one {rs : List Run} {s : Option Run} {a p b q : Nat} (h : IsRet rs s a p) (g : IsRet rs s b q) : a = b ∧ p = q := by
  obtain ⟨h1, h2, h3⟩ := h
  obtain ⟨g1, g2, g3⟩ := g
  have e : a + p = b + q := by
    rcases Nat.lt_trichotomy (a + p) (b + q) with c | c | c
    · exact absurd h2 (g3 _ _ (by omega) c)
    · exact c
    · exact absurd g2 (h3 _ _ (by omega) c)
  have ab : a = b := by
    rw [e] at h2
    rcases Nat.lt_trichotomy a b with c | c | c
    · exact absurd (h2.trans g2.symm) (h3 _ _ c (by omega))
    · exact c
    · exact absurd (g2.trans h2.symm) (h3 _ _ c (by omega))
  exact ⟨ab, by omega⟩
theorem isRet_shift {rs : List Run} {s : Option Run} {n a p : Nat} (no : ∀ i j, i < n → i < j → itS rs s i ≠ itS rs s j) (h : IsRet rs (itS rs s n) a p) : IsRet rs s (n + a) p := by
  obtain ⟨h1, h2, h3⟩ := h
  refine ⟨h1, by rw [itS_add, Nat.add_assoc, itS_add]; exact h2, fun i j ij jl => ?_⟩
  by_cases c : i < n
  · exact no i j c ij
  · have := h3 (i - n) (j - n) (by omega) (by omega)
    rw [← itS_add, ← itS_add, show n + (i - n) = i by omega, show n + (j - n) = j by omega] at this
    exact this
/-- the states that fall do not come again -/
theorem fall_no {rs : List Run} {k : Str} {m : Int} (pos : ∀ r ∈ rs, 1 ≤ r.2) (f : 0 < fallR rs k) {n : Nat} (far : ∀ i : Nat, i < n → itS rs (some (k, m)) i = withR k (m - (i : Int) * fallR rs k) ∧ lenR rs ≤ m - (i : Int) * fallR rs k) : ∀ i j, i < n → i < j → itS rs (some (k, m)) i ≠ itS rs (some (k, m)) j := fun i j hi ij e => by
  obtain ⟨h1, h2⟩ := far i hi
  have c0 := cntK_pos (k := k) pos
  have fe : fallR rs k = lenR rs - 2 * cntK rs k := rfl
  rw [show j = i + (j - i) by omega, itS_add, h1, with_pos (by omega)] at e
  exact not_back pos h2 f (by omega) e.symm
theorem fall_far {rs : List Run} {r : Run} (pos : ∀ r ∈ rs, 1 ≤ r.2) (so : PosO (some r)) : ∀ i : Nat, (i : Int) < frR rs (some r) → 0 < fallR rs r.1 ∧ itS rs (some r) i = withR r.1 (r.2 - (i : Int) * fallR rs r.1) ∧ lenR rs ≤ r.2 - (i : Int) * fallR rs r.1 := fun i hi => by
  obtain ⟨_, h2, h3⟩ := fr_room (r := r) (n := (i : Int) + 1) pos (by omega) (by omega) (by omega)
  refine ⟨h2, ?_, ?_⟩
  · rw [fall_it pos so i (by omega), fn_form (so r rfl)]
  · rw [show (i : Int) + 1 - 1 = (i : Int) by omega] at h3
    omega
/-- what return_of says is so -/
theorem ret_is {rs : List Run} {st : Option Run} {a b : Int} (pos : ∀ r ∈ rs, 1 ≤ r.2) (ps : PosO st) (h : RetR rs st a b) : ∃ x y : Nat, a = x ∧ b = y ∧ IsRet rs st x y := by
  obtain ⟨k, j, ce, jk, e, ea, eb⟩ := h
  have f0 := frR_nonneg (rs := rs) (st := st)
  have ef : fnR rs st (frR rs st) = itS rs st (frR rs st).toNat := by
    rw [fall_it pos ps _ (by omega), show (((frR rs st).toNat : Nat) : Int) = frR rs st by omega]
  rw [ef] at ce e
  refine ⟨(frR rs st).toNat + j, k - j, by omega, by omega, isRet_shift ?_ ⟨by omega, by rw [show j + (k - j) = k by omega]; exact e, fun i l il lk => (ce.go l (by omega)).2.2 i il⟩⟩
  cases st with
  | none =>
    intro i j hi _
    have : frR rs none = 0 := rfl
    omega
  | some r =>
    by_cases z : frR rs (some r) = 0
    · intro i j hi _
      omega
    · have f := (fall_far pos ps 0 (by omega)).1
      exact fall_no (m := r.2) pos f fun i hi => (fall_far pos ps i (by omega)).2
/-! one round or two -/
theorem par_stI : ∀ (l : List Str) (s : Option Run), PosO s → ∃ z : Int, numR (stI l s) = numR s + (l.length : Int) - 2 * z
  | [], s, _ => ⟨0, by show numR s = numR s + 0 - 2 * 0; omega⟩
  | x :: t, s, ps => by
    obtain ⟨z, hz⟩ := par_stI t (stepR s x 1) (stepR_pos ps (by decide))
    have hs : ∃ y : Int, numR (stepR s x 1) = numR s + 1 - 2 * y := by
      cases s with
      | none => exact ⟨0, rfl⟩
      | some r =>
        have r1 := ps r rfl
        by_cases xr : r.1 = x
        · rw [step_same xr]
          exact ⟨0, by show r.2 + 1 = r.2 + 1 - 2 * 0; omega⟩
        · rw [step_other xr]
          by_cases c : 0 < r.2 - 1
          · rw [if_pos c]
            exact ⟨1, by show r.2 - 1 = r.2 + 1 - 2 * 1; omega⟩
          · rw [if_neg c, if_pos (by omega)]
            exact ⟨1, by show 0 = r.2 + 1 - 2 * 1; omega⟩
    obtain ⟨y, hy⟩ := hs
    refine ⟨z + y, ?_⟩
    show numR (stI t (stepR s x 1)) = _
    rw [hz, hy, List.length_cons]
    omega
theorem ret_two {rs : List Run} {s : Option Run} {a p : Nat} (pos : ∀ r ∈ rs, 1 ≤ r.2) (ps : PosO s) (h : IsRet rs s a p) : (p = 1 ∧ lenR rs % 2 = 0) ∨ p = 2 := by
  obtain ⟨h1, h2, h3⟩ := h
  have pa := itS_pos pos ps a
  rw [itS_add] at h2
  have t := two_period pos pa h1 h2.symm
  by_cases c : 2 < p
  · rw [← itS_add] at t
    exact absurd t.symm (h3 a (a + 2) (by omega) (by omega))
  · rcases (show p = 1 ∨ p = 2 by omega) with e | e
    · left
      refine ⟨e, ?_⟩
      rw [e] at h2
      have h2 : itS rs s a = stR rs (itS rs s a) := h2
      rw [st_items _ _ pa pos] at h2
      obtain ⟨z, hz⟩ := par_stI (itR rs) _ pa
      rw [← h2, it_len pos] at hz
      omega
    · exact .inr e
/-! growth -/
/-- from the state b on each round adds the growth, and b is the first such -/
def IsBeg (rs : List Run) (g : Run) (s : Option Run) (b : Nat) : Prop := (∀ i, b ≤ i → agB g (itS rs s i) (itS rs s (i + 1)) = true) ∧ ∀ i, i + 1 = b → agB g (itS rs s i) (itS rs s (i + 1)) = false
theorem isBeg_one {rs : List Run} {g : Run} {s : Option Run} {a b : Nat} (h : IsBeg rs g s a) (k : IsBeg rs g s b) : a = b := by
  obtain ⟨h1, h2⟩ := h
  obtain ⟨k1, k2⟩ := k
  rcases Nat.lt_trichotomy a b with c | c | c
  · have := h1 (b - 1) (by omega)
    rw [k2 (b - 1) (by omega)] at this
    cases this
  · exact c
  · have := k1 (a - 1) (by omega)
    rw [h2 (a - 1) (by omega)] at this
    cases this
theorem grow_ag {rs : List Run} {g : Run} {s : Option Run} {n : Nat} {m : Int} (pos : ∀ r ∈ rs, 1 ≤ r.2) (hg : grR rs = some g) (e : itS rs s n = some (g.1, m)) (l : lenR rs ≤ m) (m1 : 1 ≤ m) : ∀ i, n ≤ i → agB g (itS rs s i) (itS rs s (i + 1)) = true := fun i hi => by
  rw [show i + 1 = n + (i - n + 1) by omega, show i = n + (i - n) by omega, itS_add, itS_add, e, show n + (i - n) - n = i - n by omega, itS_grow pos hg _ m l m1, itS_grow pos hg _ m l m1]
  unfold agB
  rw [Bool.and_eq_true]
  refine ⟨decide_eq_true rfl, decide_eq_true ?_⟩
  show some (g.1, m + ((i - n + 1 : Nat) : Int) * g.2) = some (g.1, m + ((i - n : Nat) : Int) * g.2 + g.2)
  rw [show ((i - n + 1 : Nat) : Int) = ((i - n : Nat) : Int) + 1 by omega, Int.add_mul, Int.one_mul]
  congr 2
  omega
/-- going back as long as the growth is added -/
def bakR (rs : List Run) (g : Run) (s : Option Run) : Nat → Nat
  | 0 => 0
  | n + 1 => if agB g (itS rs s n) (itS rs s (n + 1)) = true then bakR rs g s n else n + 1
theorem bak_is {rs : List Run} {g : Run} {s : Option Run} : ∀ n : Nat, bakR rs g s n ≤ n ∧ (∀ i, bakR rs g s n ≤ i → i < n → agB g (itS rs s i) (itS rs s (i + 1)) = true) ∧ ∀ i, i + 1 = bakR rs g s n → agB g (itS rs s i) (itS rs s (i + 1)) = false
  | 0 => ⟨Nat.le_refl _, fun i _ h => absurd h (Nat.not_lt_zero _), fun i h => by cases h⟩
  | n + 1 => by
    obtain ⟨h1, h2, h3⟩ := bak_is (rs := rs) (g := g) (s := s) n
    have e0 : bakR rs g s (n + 1) = if agB g (itS rs s n) (itS rs s (n + 1)) = true then bakR rs g s n else n + 1 := rfl
    rw [e0]
    by_cases c : agB g (itS rs s n) (itS rs s (n + 1)) = true
    · rw [if_pos c]
      refine ⟨by omega, fun i a b => ?_, h3⟩
      by_cases z : i = n
      · rw [z]; exact c
      · exact h2 i a (by omega)
    · rw [if_neg c]
      refine ⟨Nat.le_refl _, fun i a b => by omega, fun i e => ?_⟩
      have : i = n := by omega
      rw [this]
      exact Bool.eq_false_iff.mpr c
theorem isBeg_bak {rs : List Run} {g : Run} {s : Option Run} {n : Nat} (h : ∀ i, n ≤ i → agB g (itS rs s i) (itS rs s (i + 1)) = true) : IsBeg rs g s (bakR rs g s n) := by
  obtain ⟨h1, h2, h3⟩ := bak_is (rs := rs) (g := g) (s := s) n
  refine ⟨fun i hi => ?_, h3⟩
  by_cases c : i < n
  · exact h2 i hi c
  · exact h i (by omega)
theorem isBeg_shift {rs : List Run} {g : Run} {s : Option Run} {n b : Nat} (no : ∀ i, i + 1 = n → agB g (itS rs s i) (itS rs s (i + 1)) = false) (h : IsBeg rs g (itS rs s n) b) : IsBeg rs g s (n + b) := by
  obtain ⟨h1, h2⟩ := h
  refine ⟨fun i hi => ?_, fun i hi => ?_⟩
  · have := h1 (i - n) (by omega)
    rw [← itS_add, ← itS_add, show n + (i - n) = i by omega, show n + (i - n + 1) = i + 1 by omega] at this
    exact this
  · by_cases c : b = 0
    · exact no i (by omega)
    · have := h2 (b - 1) (by omega)
      rw [← itS_add, ← itS_add, show n + (b - 1) = i by omega, show n + (b - 1 + 1) = i + 1 by omega] at this
      exact this
end UP

set_option Elab.async false
set_option linter.all false
set_option maxRecDepth 100000
set_option maxHeartbeats 4000000
set_option pp.maxSteps 500
namespace UP
open PySem PySem.Spec PyProof.Rows L2
theorem grow_is {rs : List Run} {g : Run} {st : Option Run} {k : Nat} {m : Int} (pos : ∀ r ∈ rs, 1 ≤ r.2) (hg : grR rs = some g) (ps : PosO st) (e : itS rs (fnR rs st (frR rs st)) k = some (g.1, m)) (l : lenR rs ≤ m) : IsBeg rs g st ((frR rs st).toNat + bakR rs g (fnR rs st (frR rs st)) k) := by
  have f0 := frR_nonneg (rs := rs) (st := st)
  have ef : fnR rs st (frR rs st) = itS rs st (frR rs st).toNat := by
    rw [fall_it pos ps _ (by omega), show (((frR rs st).toNat : Nat) : Int) = frR rs st by omega]
  obtain ⟨gf, g1⟩ := gr_fall hg
  have gl : 1 ≤ lenR rs := by
    have := cntK_pos (k := g.1) pos
    have := cntK_le (k := g.1) pos
    have : fallR rs g.1 = lenR rs - 2 * cntK rs g.1 := rfl
    omega
  rw [ef] at e ⊢
  refine isBeg_shift (fun i hi => ?_) (isBeg_bak (grow_ag pos hg e l (by omega)))
  cases st with
  | none =>
    have : frR rs none = 0 := rfl
    omega
  | some r =>
    obtain ⟨h1, h2, h3⟩ := fall_far pos ps i (by omega)
    rw [h2, with_pos (by omega)]
    have n : r.1 ≠ g.1 := fun z => by
      rw [z] at h1
      omega
    show (decide (r.1 = g.1) && _) = false
    rw [decide_eq_false n]
    rfl
theorem back_bak {rs : List Run} {g : Run} {s : Option Run} {k : Nat} : ∀ n, n + 1 ≤ k → ∀ b a, (courseR rs s k)[n]? = some b → (courseR rs s k)[n + 1]? = some a → bakR rs g s (n + 1) = if agB g b a = true then bakR rs g s n else n + 1 := fun n hn b a hb ha => by
  rw [crs_at (by omega)] at hb ha
  cases hb
  cases ha
  rfl
theorem fr_leV {rs : List Run} {r : Run} (pos : ∀ r ∈ rs, 1 ≤ r.2) (h : 1 ≤ r.2) : frR rs (some r) ≤ r.2 + 1 := by
  show (if r.2 < lenR rs ∨ fallR rs r.1 ≤ 0 then 0 else (r.2 - lenR rs) / fallR rs r.1 + 1) ≤ r.2 + 1
  split
  · omega
  · rename_i c
    have c1 : ¬ r.2 < lenR rs := fun z => c (.inl z)
    have := Int.ediv_le_self (a := r.2 - lenR rs) (fallR rs r.1) (by omega)
    have := len_nonneg pos
    omega
theorem fr_bitsV {rs : List Run} {st : Option Run} (pos : ∀ r ∈ rs, 1 ≤ r.2) (so : StOk st) (h : ∀ r, st = some r → r.2.natAbs < 2 ^ 400000) : (frR rs st).natAbs < 2 ^ 500000 := by
  have h5 : (2 : Nat) ^ 400000 < 2 ^ 500000 := Nat.pow_lt_pow_right (by decide) (by decide)
  have h0 := frR_nonneg (rs := rs) (st := st)
  cases st with
  | none => exact Nat.pow_pos (by decide)
  | some r =>
    have r1 := (so r rfl).2
    have h1 := fr_leV pos r1
    have h2 := h r rfl
    generalize (2 : Nat) ^ 400000 = A at h2 h5
    generalize (2 : Nat) ^ 500000 = B at h5 ⊢
    omega
section
variable {P : Program} {w : World} {K : PySem.W.Frag} {mg : Str → Option Value} {base : Heap}
/-! growth_of: slots 0:sequence -/
abbrev s_growth_of : Stmt := topS 50
theorem sc_growth_of : FnScope ["sequence"] ["sequence"] (defScope s_growth_of) := ⟨rfl, rfl, rfl, by decide +kernel, rfl, by decide +kernel, by decide +kernel⟩
def sp_growth_of : Sp := fun vs H Q _ => ∃ (v : V) (rs : List Run), vs = [v] ∧ RunsG H v rs ∧ SeqOk rs ∧ lenR rs ≤ 400 ∧ ∀ H' v', Same H H' → StV H' v' (grR rs) → Q v' H'
theorem ok_growth_of (D : Df K mg "growth_of" s_growth_of) (G_checked_short_runs : Has P w K mg base 6 "checked_short_runs" ["sequence"] sp_checked_short_runs) (G_growth_in : Has P w K mg base 7 "growth_in" ["runs"] sp_growth_in) : Has P w K mg base 8 "growth_of" ["sequence"] sp_growth_of := by
  refine has_of D sc_growth_of (fun _ _ _ _ _ _ us hl => match us, hl with | [_], _ => rfl) (fun vs H Q E h => ?_) (fun f cdv A outer s₀ H vs Q E hr h => ?_)
  · obtain ⟨_, _, rfl, _⟩ := h
    rfl
  · obtain ⟨v, rs, rfl, hv, ok, l4, q⟩ := h
    refine ⟨_, (pss_one (ps_ret (pe_callH G_growth_in (hr.mono (by omega)) (by rfl) (pa_cons (pe_callH G_checked_short_runs (hr.mono (by omega)) (by rfl) (pa_cons (pv 0) pa_nil)) pa_nil)))), ?_⟩
    exact ⟨_, rfl, v, rs, rfl, hv, ok, l4, fun H1 p s1 np hp => ⟨p, _, rfl, hp, ok, l4, fun H2 v2 s2 h2 => q _ _ (s1.trans s2) h2⟩⟩
/-! growing_from: slots 0:sequence 1:state 2:runs 3:growth 4:falling 5:states 6:start -/
abbrev s_growing_from : Stmt := topS 52
theorem sc_growing_from : FnScope ["sequence", "state", "runs", "growth", "falling", "states", "start"] ["sequence", "state"] (defScope s_growing_from) := ⟨rfl, rfl, rfl, by decide +kernel, rfl, by decide +kernel, by decide +kernel⟩
def sp_growing_from : Sp := fun vs H Q _ => ∃ (v z : V) (rs : List Run) (st : Option Run), vs = [v, z] ∧ RunsG H v rs ∧ SeqOk rs ∧ lenR rs ≤ 400 ∧ StG H z st ∧ StOk st ∧ (∀ r, st = some r → r.2.natAbs < 2 ^ 400000) ∧ (grR rs = none → ∀ H', Same H H' → Q .non H') ∧
  (∀ g, grR rs = some g → ∀ H' (b : Nat), Same H H' → IsBeg rs g st b → Q (.int (b : Int)) H')
theorem ok_growing_from (D : DfD K mg "growing_from" s_growing_from [.non]) (T : Tx mg) (G_checked_short_runs : Has P w K mg base 6 "checked_short_runs" ["sequence"] sp_checked_short_runs) (G_checked_state : Has P w K mg base 3 "checked_state" ["state"] sp_checked_state) (G_growth_in : Has P w K mg base 7 "growth_in" ["runs"] sp_growth_in)
    (G_falling_rounds : Has P w K mg base 3 "falling_rounds" ["runs", "state"] sp_falling_rounds) (G_course_of : HasDv (.int 1000000000000000000000000000000) P w K mg base 4 "course_of" ["runs", "growth", "state", "most"] 3 sp_course_of) (G_fallen : Has P w K mg base 3 "fallen" ["runs", "state", "rounds"] sp_fallen) (G_adds_growth : Has P w K mg base 2 "adds_growth" ["growth", "before", "after"] sp_adds_growth) :
    HasD P w K mg base 8 "growing_from" ["sequence", "state"] 1 "state" sp_growing_from := by
  refine has_ofD D sc_growing_from rfl (fun T kV doc pm an cdv ct us its h1 h2 => ?_) (fun T kV doc pm an cdv ct us its h1 h2 => ?_) (fun T kV doc pm an cdv ct us its v h1 h2 => ?_) (fun vs H Q E h => ?_) (fun f cdv A outer s₀ H vs Q E hr h => ?_)
  · match us, its, h1, h2 with
    | [_, _], [_], _, _ => exact ⟨_, rfl, rfl⟩
  · match us, its, h1, h2 with
    | [_], [_], _, _ => exact ⟨_, rfl, rfl⟩
  · match us, its, h1, h2 with
    | [_], [_], _, _ => exact ⟨_, rfl, rfl⟩
  · obtain ⟨_, _, _, _, rfl, _⟩ := h
    rfl
  · obtain ⟨v, z, rs, st, rfl, hv, ok, l4, hz, so, sb, qn, qg⟩ := h
    have pos : ∀ r ∈ rs, 1 ≤ r.2 := fun r hr => (ok.2.1 r hr).2.1
    have ps : PosO st := fun r e => (so r e).2
    refine ⟨_, (pss_cons (ps_set (i := 2) sc_growing_from.nd rfl (by first | exact Or.inl rfl | exact Or.inr rfl) (pe_callH G_checked_short_runs (hr.mono (by omega)) (by rfl) (pa_cons (pv 0) pa_nil)))
    (pss_cons (ps_set (i := 1) sc_growing_from.nd rfl (by first | exact Or.inl rfl | exact Or.inr rfl) (pe_callH G_checked_state (hr.mono (by omega)) (by rfl) (pa_cons (pv 1) pa_nil)))
    (pss_cons (ps_set (i := 3) sc_growing_from.nd rfl (by first | exact Or.inl rfl | exact Or.inr rfl) (pe_callH G_growth_in (hr.mono (by omega)) (by rfl) (pa_cons (pv 2) pa_nil)))
    (pss_cons (ps_if (pt_cmpR op_isN (pv 3) pe_non (nomark _)) (pss_one (ps_ret pe_non)) pss_nil)
    (pss_cons (ps_set (i := 4) sc_growing_from.nd rfl (by first | exact Or.inl rfl | exact Or.inr rfl) (pe_callH G_falling_rounds (hr.mono (by omega)) (by rfl) (pa_cons (pv 2) (pa_cons (pv 1) pa_nil))))
    (pss_cons (ps_set (i := 5) sc_growing_from.nd rfl (by first | exact Or.inl rfl | exact Or.inr rfl) (pe_callDv G_course_of (hr.mono (by omega)) (by rfl) (pa_cons (pv 2) (pa_cons (pv 3) (pa_cons (pe_callH G_fallen (hr.mono (by omega)) (by rfl) (pa_cons (pv 2) (pa_cons (pv 1) (pa_cons (pv 4) pa_nil)))) pa_nil)))))
    (pss_cons (ps_set (i := 6) sc_growing_from.nd rfl (by first | exact Or.inl rfl | exact Or.inr rfl) (pe_op op_sub (pe_callB call_len_seq (by rfl) T.n_len (by decide +kernel) (pa_cons (pv 5) pa_nil)) pe_int))
    (pss_cons (ps_while PassesOwn.never (PW.pt (pw_and (pt_cmpR op_gt (pv 6) pe_int (nomark _)) (pw_and1 (pt_val (pe_callH G_adds_growth (hr.mono (by omega)) (by rfl) (pa_cons (pv 3) (pa_cons (pe_ix ix_list (pv 5) (pe_op op_sub (pv 6) pe_int) (fun _ _ => rfl)) (pa_cons (pe_ix ix_list (pv 5) (pv 6) (fun _ _ => rfl)) pa_nil))))))))
      (pss_one (ps_aug (i := 6) sc_growing_from.nd rfl (by first | exact Or.inl rfl | exact Or.inr rfl) pe_int ip_sub)))
    (pss_one (ps_ret (pe_op op_add (pv 4) (pv 6)))))))))))), ?_⟩
    refine ⟨_, rfl, v, rs, rfl, hv, ok, l4, fun H1 p s1 np hp => ?_⟩
    refine ⟨_, rfl, z, st, rfl, hz.same s1, so, fun H2 v2 s2 h2 => ?_⟩
    have s12 := s1.trans s2
    refine ⟨_, rfl, p, _, rfl, hp.same s2, ok, l4, fun H3 v3 s3 h3 => ?_⟩
    cases eg : grR rs with
    | none =>
      rw [eg] at h3
      cases h3
      exact ⟨_, rfl, rfl, _, rfl, iteP rfl (qn eg _ (s12.trans s3))⟩
    | some g =>
      have og : StOk (some g) := by rw [← eg]; exact gr_ok ok
      rw [eg] at h3
      obtain ⟨tg, rfl, htg⟩ := id h3
      refine ⟨_, rfl, rfl, _, rfl, iteN rfl ?_⟩
      have fpos : PosO (fnR rs st (frR rs st)) := fun r e => (fn_ok (n := frR rs st) pos so frR_nonneg (Int.le_refl _) r e).2
      obtain ⟨k, few, ce, end1⟩ := course_grow (N := 1000000000000000000000000000000) pos l4 eg fpos (fallen_low pos ps) (by decide)
      obtain ⟨m, em, lm⟩ := end1 (by omega)
      have q9 := fun H' s => qg g eg H' _ s (grow_is pos eg ps em lm)
      have f0 := frR_nonneg (rs := rs) (st := st)
      refine ⟨_, rfl, _, rfl, p, _, v2, _, rfl, (hp.same s2).same s3, ok, l4, h2.same s3, fun H4 s4 => ?_⟩
      have s24 := s3.trans s4
      refine ⟨_, rfl, _, rfl, _, rfl, _, rfl, _, rfl, p, _, v2, _, _, rfl, (hp.same s2).same s24, ok, l4, h2.same s24, fun h => fr_some h frR_nonneg (Int.le_refl _), fr_bitsV pos so sb, fun H5 v5 s5 h5 => ?_⟩
      have s25 := s24.trans s5
      refine ⟨p, _, _, v5, some g, _, _, k, rfl, (hp.same s2).same s25, ok, (h3.same s4).same s5, h5, ce, (by omega), fun H6 p6 s6 n6 h6 => ?_⟩
      have fo := fn_ok (n := frR rs st) pos so frR_nonneg (Int.le_refl _)
      have oks := crs_ok (n := k) ok.kinds fo
      obtain ⟨xs, _, hx, lx, _, _⟩ := h6.at (crs_at (Nat.le_refl k))
      rw [crs_len] at lx
      refine ⟨_, rfl, p6, xs, rfl, .inl (.of hx), _, _, rfl, rfl, ?_⟩
      rw [lx]
      dsimp only
      rw [show ((k + 1 : Nat) : Int) - 1 = (k : Int) by omega]
      have h36 := ((h3.same s4).same s5).same s6
      have bb := back_bak (rs := rs) (g := g) (s := fnR rs st (frR rs st)) (k := k)
      have cl : (courseR rs (fnR rs st (frR rs st)) k).length = k + 1 := crs_len
      generalize hL : courseR rs (fnR rs st (frR rs st)) k = L at *
      refine ⟨fun s σ H' => s ≤ k ∧ σ = [some v, some v2, some (.ref p), some (.ref tg), some (.int (frR rs st)), some (.ref p6), some (.int (s : Nat))] ∧ Same H6 H' ∧ bakR rs g (fnR rs st (frR rs st)) s = bakR rs g (fnR rs st (frR rs st)) k, ⟨k, Nat.le_refl _, rfl, Same.refl _, rfl⟩, fun s σ H7 hW => ?_⟩
      obtain ⟨sk, rfl, s7, eb⟩ := hW
      have s17 := s12.trans (s25.trans (s6.trans s7))
      refine ⟨_, rfl, _, _, rfl, rfl, _, rfl, ?_⟩
      cases s with
      | zero =>
        refine iteN rfl (iteF ⟨_, rfl, _, rfl, _, _, rfl, rfl, ?_⟩)
        have q9 := q9 _ s17
        rw [← eb] at q9
        have e0 : (((frR rs st).toNat + bakR rs g (fnR rs st (frR rs st)) 0 : Nat) : Int) = frR rs st + ((0 : Nat) : Int) := by
          show (((frR rs st).toNat + 0 : Nat) : Int) = _
          omega
        rw [e0] at q9
        exact q9
      | succ s =>
        refine iteP (decide_eq_true (by show (0 : Int) < ((s + 1 : Nat) : Int); omega)) ?_
        obtain ⟨b, hb⟩ : ∃ b, L[s]? = some b := ⟨_, List.getElem?_eq_getElem (by omega)⟩
        obtain ⟨a, ha⟩ : ∃ a, L[s + 1]? = some a := ⟨_, List.getElem?_eq_getElem (by omega)⟩
        obtain ⟨ys, vb, hy, ly, evb, hvb⟩ := (h6.same s7).at hb
        obtain ⟨ys2, va, hy2, _, eva, hva⟩ := (h6.same s7).at ha
        rw [hy] at hy2
        cases hy2
        refine ⟨_, rfl, _, rfl, _, rfl, _, _, rfl, rfl, p6, ys, _, vb, rfl, rfl, .of hy, (by rw [show ((s + 1 : Nat) : Int) - 1 = (s : Int) by omega]; exact atI_ofR (by omega) (by rw [Int.toNat_natCast]; exact evb)), _, rfl, _, rfl, p6, ys, _, va, rfl, rfl, .of hy, atI_ofR (by omega) (by rw [Int.toNat_natCast]; exact eva), _, vb, va, g, b, a, rfl, h36.same s7, hvb, hva, og, oks _ (List.mem_of_getElem? hb), oks _ (List.mem_of_getElem? ha), fun H8 s8 => ⟨_, rfl, ?_⟩⟩
        have e1 := bb s sk b a hb ha
        by_cases c : agB g b a = true
        · rw [if_pos c] at e1
          refine iteP c ⟨fun σ' H' => σ' = [some v, some v2, some (.ref p), some (.ref tg), some (.int (frR rs st)), some (.ref p6), some (.int (s : Nat))] ∧ Same H6 H', fun σ' H' h => ⟨s, Nat.lt_succ_self _, by omega, h.1, h.2, by rw [← e1, eb]⟩, ?_⟩
          refine ⟨_, rfl, _, _, rfl, rfl, ?_, s7.trans s8⟩
          dsimp only
          rw [show ((s + 1 : Nat) : Int) - 1 = (s : Int) by omega]
          rfl
        · have c : agB g b a = false := by simpa using c
          rw [if_neg (by rw [c]; decide)] at e1
          refine iteN c ⟨_, rfl, _, rfl, _, _, rfl, rfl, ?_⟩
          have q9 := q9 _ (s17.trans s8)
          rw [← eb, e1] at q9
          have e0 : (((frR rs st).toNat + (s + 1) : Nat) : Int) = frR rs st + ((s + 1 : Nat) : Int) := by omega
          rw [e0] at q9
          exact q9
end
end UP

set_option Elab.async false
set_option linter.all false
set_option maxRecDepth 100000
set_option maxHeartbeats 4000000
set_option pp.maxSteps 1200
namespace UP
open PySem PySem.Spec PyProof.Rows L2
section
variable {X : Cx} {K : PySem.W.Frag}
theorem op_eqDK (hK : X.K = K) (hu : X.A.units + 64 < cLine) : OpR X (compareOp .Eq) (rEqD K) := by
  subst hK
  exact op_eqD hu
end
/-! ### the states ahead of a state -/
def sbN (items : List Str) (goal : Option Run) (k : Str) (n : Nat) : List (Option Run) := ((List.range n).filter fun j : Nat => decide (stI items (some (k, 1 + (j : Int))) = goal)).map fun j : Nat => some (k, 1 + (j : Int))
def sbE (items : List Str) (goal : Option Run) (k : Str) : List (Option Run) := match goal with
  | none => []
  | some r => if r.1 = k ∧ (items.length : Int) < r.2 - chR items k then [some (k, r.2 - chR items k)] else []
def sbK (items : List Str) (goal : Option Run) (k : Str) : List (Option Run) := sbN items goal k items.length ++ sbE items goal k
def sb0 (items : List Str) (goal : Option Run) : List (Option Run) := if stI items none = goal then [none] else []
def sbR (items : List Str) (goal : Option Run) (ks : List Str) : List (Option Run) := sb0 items goal ++ ks.flatMap (sbK items goal)
theorem sbN_succ (items : List Str) (goal : Option Run) (k : Str) (n : Nat) : sbN items goal k (n + 1) = sbN items goal k n ++ (if stI items (some (k, 1 + (n : Int))) = goal then [some (k, 1 + (n : Int))] else []) := by
  unfold sbN
  rw [List.range_succ, List.filter_append, List.map_append]
  congr 1
  by_cases c : stI items (some (k, 1 + (n : Int))) = goal
  · rw [if_pos c]
    simp [c]
  · rw [if_neg c]
    simp [c]
theorem sbN_len (items : List Str) (goal : Option Run) (k : Str) (n : Nat) : (sbN items goal k n).length ≤ n := by
  unfold sbN
  rw [List.length_map]
  have := List.length_filter_le (fun j : Nat => decide (stI items (some (k, 1 + (j : Int))) = goal)) (List.range n)
  rw [List.length_range] at this
  exact this
theorem sbK_len (items : List Str) (goal : Option Run) (k : Str) : (sbK items goal k).length ≤ items.length + 1 := by
  unfold sbK sbE
  rw [List.length_append]
  have := sbN_len items goal k items.length
  cases goal with
  | none =>
    show _ + 0 ≤ _
    omega
  | some r =>
    dsimp only
    split
    · show _ + 1 ≤ _
      omega
    · show _ + 0 ≤ _
      omega
theorem sbF_len (items : List Str) (goal : Option Run) : ∀ ks : List Str, (ks.flatMap (sbK items goal)).length ≤ ks.length * (items.length + 1)
  | [] => Nat.zero_le _
  | k :: t => by
    have h1 := sbF_len items goal t
    have h2 := sbK_len items goal k
    rw [List.flatMap_cons, List.length_append, List.length_cons, Nat.succ_mul]
    omega
theorem sb0_len (items : List Str) (goal : Option Run) : (sb0 items goal).length ≤ 1 := by
  unfold sb0
  split <;> simp
theorem flat_snoc {α β : Type} (l : List α) (x : α) (f : α → List β) : (l ++ [x]).flatMap f = l.flatMap f ++ f x := by
  rw [List.flatMap_append]
  simp
theorem ok_sb {items : List Str} {goal : Option Run} {ks : List Str} (h : ∀ k ∈ ks, KindOk k) : ∀ e ∈ sbR items goal ks, StOk e := by
  intro e he
  rcases List.mem_append.mp he with z | z
  · unfold sb0 at z
    split at z
    · rw [List.mem_singleton.mp z]
      exact fun r q => by cases q
    · cases z
  · obtain ⟨k, hk, z⟩ := List.mem_flatMap.mp z
    have kk := h k hk
    rcases List.mem_append.mp z with z | z
    · obtain ⟨j, _, ej⟩ := List.mem_map.mp z
      rw [← ej]
      intro r q
      cases q
      exact ⟨kk, by show 1 ≤ 1 + (j : Int); omega⟩
    · unfold sbE at z
      cases goal with
      | none => cases z
      | some s =>
        dsimp only at z
        split at z
        · rename_i c
          rw [List.mem_singleton.mp z]
          intro r q
          cases q
          exact ⟨kk, by show 1 ≤ s.2 - chR items k; omega⟩
        · cases z
section
variable {P : Program} {w : World} {K : PySem.W.Frag} {mg : Str → Option Value} {base : Heap}
/-! states_before: slots 0:sequence 1:state 2:kinds 3:items 4:endings 5:length 6:states 7:kind 8:effects 9:number -/
abbrev s_states_before : Stmt := topS 69
theorem sc_states_before : FnScope ["sequence", "state", "kinds", "items", "endings", "length", "states", "kind", "effects", "number"] ["sequence", "state", "kinds"] (defScope s_states_before) := ⟨rfl, rfl, rfl, by decide +kernel, rfl, by decide +kernel, by decide +kernel⟩
def sp_states_before : Sp := fun vs H Q _ => ∃ (av v : V) (b : Addr) (rs : List Run) (goal : Option Run) (ks : List Str), vs = [av, v, .ref b] ∧ RunsG H av rs ∧ SeqOk rs ∧ lenR rs ≤ 400 ∧ StG H v goal ∧ StOk goal ∧ Sq2 H b (ks.map V.str) ∧ KsOk ks ∧ ∀ H' p, Same H H' → H p = none → StL H' p (sbR (itR rs) goal ks) → Q (.ref p) H'
theorem ok_states_before (D : Df K mg "states_before" s_states_before) (T : Tx mg) (G_items_of : Has P w K mg base 7 "items_of" ["sequence"] sp_items_of) (G_checked_state : Has P w K mg base 3 "checked_state" ["state"] sp_checked_state) (G_check_kinds : Has P w K mg base 3 "check_kinds" ["kinds"] sp_check_kinds) (G_endings_of : Has P w K mg base 2 "endings_of" ["items"] sp_endings_of)
    (G_effects_up_to : Has P w K mg base 2 "effects_up_to" ["items", "endings", "kind", "most"] sp_effects_up_to) (G_shift_of : Has P w K mg base 1 "shift_of" ["items", "kind"] sp_shift_of) : Has P w K mg base 8 "states_before" ["sequence", "state", "kinds"] sp_states_before := by
  refine has_of D sc_states_before (fun _ _ _ _ _ _ us hl => match us, hl with | [_, _, _], _ => rfl) (fun vs H Q E h => ?_) (fun f cdv A outer s₀ H vs Q E hr h => ?_)
  · obtain ⟨_, _, _, _, _, _, rfl, _⟩ := h
    rfl
  · obtain ⟨av, v, b, rs, goal, ks, rfl, hR, ok, l4, hv, okg, hb, okk, q⟩ := h
    have li := len_it rs fun r hr => (ok.2.1 r hr).2.1
    have il : (itR rs).length ≤ 400 := by omega
    have iok : ∀ x ∈ itR rs, KindOk x := fun x hx => by
      obtain ⟨r, hr, hk⟩ := List.mem_flatMap.mp hx
      rw [List.eq_of_mem_replicate hk]
      exact (ok.2.1 r hr).1
    refine ⟨_, (pss_cons (ps_set (i := 3) sc_states_before.nd rfl (by first | exact Or.inl rfl | exact Or.inr rfl) (pe_callH G_items_of (hr.mono (by omega)) (by rfl) (pa_cons (pv 0) pa_nil)))
    (pss_cons (ps_set (i := 1) sc_states_before.nd rfl (by first | exact Or.inl rfl | exact Or.inr rfl) (pe_callH G_checked_state (hr.mono (by omega)) (by rfl) (pa_cons (pv 1) pa_nil)))
    (pss_cons (ps_expr (pe_callH G_check_kinds (hr.mono (by omega)) (by rfl) (pa_cons (pv 2) pa_nil)))
    (pss_cons (ps_set (i := 4) sc_states_before.nd rfl (by first | exact Or.inl rfl | exact Or.inr rfl) (pe_callH G_endings_of (hr.mono (by omega)) (by rfl) (pa_cons (pv 3) pa_nil)))
    (pss_cons (ps_set (i := 5) sc_states_before.nd rfl (by first | exact Or.inl rfl | exact Or.inr rfl) (pe_callB call_len_seq (by rfl) T.n_len (by decide +kernel) (pa_cons (pv 3) pa_nil)))
    (C8.pss_cut (ps_set (i := 6) sc_states_before.nd rfl (by first | exact Or.inl rfl | exact Or.inr rfl) (pe_ifExp (pt_cmpR (op_eqD hr.units) (pe_ix ix_list (pv 4) pe_int (fun _ _ => rfl)) (pv 1) (nomark _)) (pe_lst (pa_cons pe_non pa_nil)) (pe_lst pa_nil)))
    (pss_cons (ps_for PassesOwn.never rfl (pi_seqA 2) (pg_name (i := 7) sc_states_before.nd rfl (by first | exact Or.inl rfl | exact Or.inr rfl))
      (pss_cons (ps_set (i := 8) sc_states_before.nd rfl (by first | exact Or.inl rfl | exact Or.inr rfl) (pe_callH G_effects_up_to (hr.mono (by omega)) (by rfl) (pa_cons (pv 3) (pa_cons (pv 4) (pa_cons (pv 7) (pa_cons (pv 5) pa_nil))))))
    (pss_cons (ps_expr (pe_bm PySem.F.plainAttrs_list PySem.F.slot_list_extend PySem.F.type_list_extend mt_extend (pv 6) (pa_cons (pe_lc (own := [("number", 9)]) rfl sc_states_before.nd (pi_range2 (by rfl) T.n_range (pa_cons pe_int (pa_cons (pe_op op_add (pv 5) pe_int) pa_nil))) (blkOk_by (N := ["sequence", "state", "kinds", "items", "endings", "length", "states", "kind", "effects", "number"]) (sc := defScope s_states_before) (by decide +kernel)) (fun _ _ _ _ _ => (pg_name (i := 9) sc_states_before.nd rfl (by first | exact Or.inl rfl | exact Or.inr rfl))) (fun _ _ _ _ _ => pts_one (pt_cmpR (op_eqDK (K := K) rfl hr.units) (pe_ix (ix_listK (K := K) rfl) (pv 8) (pv 9) (fun _ _ => rfl)) (pv 1) (nomark _))) (fun _ _ _ _ _ => (pe_tup (pa_cons (pv 7) (pa_cons (pv 9) pa_nil))))) pa_nil)))
    (pss_one (ps_if (PW.pt (pw_and (pt_cmpR op_notN (pv 1) pe_non (nomark _)) (pw_and (pt_cmpR op_eq (pe_ix ix_tup (pv 1) pe_int (fun _ _ => rfl)) (pv 7) (nomark _)) (pw_and1 (pt_cmpR op_gt (pe_op op_sub (pe_ix ix_tup (pv 1) pe_int (fun _ _ => rfl)) (pe_callH G_shift_of (hr.mono (by omega)) (by rfl) (pa_cons (pv 3) (pa_cons (pv 7) pa_nil)))) (pv 5) (nomark _)))))) (pss_one (ps_expr (pe_bm PySem.F.plainAttrs_list PySem.F.slot_list_append PySem.F.type_list_append mt_append (pv 6) (pa_cons (pe_tup (pa_cons (pv 7) (pa_cons (pe_op op_sub (pe_ix ix_tup (pv 1) pe_int (fun _ _ => rfl)) (pe_callH G_shift_of (hr.mono (by omega)) (by rfl) (pa_cons (pv 3) (pa_cons (pv 7) pa_nil)))) pa_nil))) pa_nil)))) pss_nil)))))
    (pss_one (ps_ret (pv 6)))))))))), ?_⟩
    refine ⟨_, rfl, av, rs, rfl, hR, ok, l4, fun H1 p1 s1 n1 h1 => ?_⟩
    generalize itR rs = items at *
    have lm : (items.map V.str).length = items.length := List.length_map ..
    refine ⟨_, rfl, v, goal, rfl, hv.same s1, okg, fun H2 v2 s2 hv2 => ?_⟩
    refine ⟨_, rfl, b, ks, rfl, (hb.same s1).same s2, okk, fun H3 s3 => ?_⟩
    have h3 := s3 _ _ (s2 _ _ h1)
    refine ⟨_, rfl, p1, items, rfl, h3, il, fun H4 e xs s4 ne he hE => ?_⟩
    have h4 := s4 _ _ h3
    have hv4 := (hv2.same s3).same s4
    have sA := s1.trans (s2.trans (s3.trans s4))
    obtain ⟨u0, hu0, hs0⟩ := id (hE.2 0 (Nat.le_refl _) (Nat.zero_le _))
    refine ⟨_, rfl, p1, _, rfl, .inl (.of h4), ?_⟩
    rw [lm]
    have iE := shaped_o (stOk_stI _ _ iok (fun r z => by cases z) : StOk (stI items none))
    refine ⟨fun σ' H' => ∃ s, σ' = [some av, some v2, some (.ref b), some (.ref p1), some (.ref e), some (.int items.length), some (.ref s), none, none, none] ∧ Same H4 H' ∧ H4 s = none ∧ StL H' s (sb0 items goal), ?_, fun σ' H5 hM => ?_⟩
    · refine ⟨_, rfl, e, _, 0, u0, rfl, rfl, .of he, atI_ofR (Int.le_refl _) hu0, _, rfl, dOt (stI items none), dOt goal, dp_o hs0, dp_o hv4, iE, shaped_o okg, _, rfl, ?_⟩
      rw [eqv_o]
      by_cases c : stI items none = goal
      · have e0 : sb0 items goal = [none] := if_pos c
        refine iteP (decide_eq_true c) ⟨(by show 1 ≤ sizeLine; decide), fun s ns => ⟨s, rfl, same_upd ns, ns, ?_⟩⟩
        rw [e0]
        exact ⟨_, upd_same, .cons rfl .nil⟩
      · have e0 : sb0 items goal = [] := if_neg c
        refine iteN (decide_eq_false c) ⟨Nat.zero_le _, fun s ns => ⟨s, rfl, same_upd ns, ns, ?_⟩⟩
        rw [e0]
        exact ⟨_, upd_same, .nil⟩
    obtain ⟨s, rfl, s5, ns, hs5⟩ := hM
    have sB := sA.trans s5
    have hb5 := hb.same sB
    have bs : b ≠ s := by
      rcases hb.same sA with h | h
      · exact ne_of_none h ns
      · exact ne_of_none h ns
    have ps : p1 ≠ s := ne_of_none h4 ns
    have es' : e ≠ s := ne_of_none he ns
    have nsH : H s = none := sA.free ns
    have h5 := s5 _ _ h4
    have he5 := s5 _ _ he
    have hv5 := hv4.same s5
    have hE5 : EndL H5 xs items 0 := ⟨hE.1, fun m a c => let ⟨v, y1, y2⟩ := hE.2 m a c; ⟨v, y1, y2.same s5⟩⟩
    obtain ⟨acc0, hacc0, _⟩ := id hs5
    have lks : ks.length ≤ 12 := okk.2.1
    refine ⟨b, _, rfl, hb5, fun J wk => for_wka wk (fun i σ H' => ∃ y7 y8 y9, σ = [some av, some v2, some (.ref b), some (.ref p1), some (.ref e), some (.int items.length), some (.ref s), y7, y8, y9] ∧ But s H5 H' ∧ StL H' s (sb0 items goal ++ (ks.take i).flatMap (sbK items goal)))
      (fun i σ H' hP => ?_) ⟨none, none, none, rfl, But.refl, by simpa using hs5⟩ (fun i x σ H6 ex hP => ?_) (fun σ H6 hP => ?_)⟩
    · obtain ⟨_, _, _, _, bt, _⟩ := hP
      rcases hb5 with h | h
      · exact (bt _ _ bs h).trans h.symm
      · exact (bt _ _ bs h).trans h.symm
    · obtain ⟨y7, y8, y9, rfl, b6, hs6⟩ := hP
      obtain ⟨k, ek, rfl⟩ := str_at ex
      have kk : KindOk k := okk.2.2.1 k (List.mem_of_getElem? ek)
      have hi : i < ks.length := (List.getElem?_eq_some_iff.mp ek).1
      have h6 := b6 _ _ ps h5
      have he6 := b6 _ _ es' he5
      have hv6 := hv5.butE hacc0 b6
      have hE6 : EndL H6 xs items 0 := ⟨hE5.1, fun m a c => let ⟨v, y1, y2⟩ := hE5.2 m a c; ⟨v, y1, y2.butE hacc0 b6⟩⟩
      refine ⟨_, rfl, _, rfl, _, rfl, _, rfl, p1, e, items, k, items.length, xs, rfl, h6, he6, hE6, Nat.le_refl _, il, fun H7 p7 es s7 n7 hes len val => ?_⟩
      have h7 := s7 _ _ h6
      have hs7 := hs6.same s7
      have hv7 := hv6.same s7
      obtain ⟨ws, hws, hwp⟩ := hes
      have fc : (ks.take i).length ≤ 12 := by
        rw [List.length_take]
        omega
      have lf := sbF_len items goal (ks.take i)
      have lf2 : (ks.take i).length * (items.length + 1) ≤ 12 * 401 := Nat.mul_le_mul fc (by omega)
      have l0 := sb0_len items goal
      obtain ⟨acc, hacc, haccp⟩ := hs7
      have la : acc.length ≤ 5000 := by
        rw [Paired.len haccp, List.length_append]
        omega
      refine ⟨_, rfl, .inl ⟨rfl, _, SqL.of hacc⟩, _, rfl, _, _, rfl, rfl, 1, _, rfl, ⟨by omega, by omega, by omega, by omega⟩, fun L nL => ?_⟩
      have en : ((items.length : Int) + 1 - 1).toNat = items.length := by omega
      rw [en]
      refine lc_range (lo := 1) (n := items.length) (fun i H' => Same H7 H' ∧ StL H' L (sbN items goal k i)) ⟨same_upd nL, [], upd_same, .nil⟩ (fun i H8 hi8 hP => ?_) (fun H8 hP => ?_)
      · obtain ⟨s8, zs, hL, hzp⟩ := hP
        have hi8 : i < items.length := hi8
        obtain ⟨w, hw, hwv⟩ := Paired.at' hwp (val (i + 1) (by omega))
        have ew : fxR items k ((i + 1 : Nat) : Int) = stI items (some (k, 1 + (i : Int))) := by
          unfold fxR
          rw [with_pos (by omega), show ((i + 1 : Nat) : Int) = 1 + (i : Int) by omega]
        rw [ew] at hwv
        have es1 := sbN_succ items goal k i
        have lz : zs.length ≤ i := by
          rw [Paired.len hzp]
          exact sbN_len items goal k i
        refine ⟨rfl, _, rfl, _, rfl, p7, _, 1 + (i : Int), w, rfl, rfl, .of (s8 _ _ hws), atI_ofR (by omega) (by rw [show (1 + (i : Int)).toNat = i + 1 by omega]; exact hw), _, rfl, dOt (stI items (some (k, 1 + (i : Int)))), dOt goal, dp_o (hwv.same s8), dp_o (hv7.same s8), shaped_o (stOk_stI _ _ iok (fun r z => by cases z; exact ⟨kk, by show 1 ≤ 1 + (i : Int); omega⟩)), shaped_o okg, _, rfl, ?_⟩
        rw [eqv_o]
        by_cases c : stI items (some (k, 1 + (i : Int))) = goal
        · rw [if_pos c] at es1
          refine iteP (decide_eq_true c) ⟨_, rfl, _, rfl, (by show 2 ≤ sizeLine; decide), fun t nt => ⟨zs, same_upd nt _ _ hL, small (by omega), same_grow nL (s8.trans (same_upd nt)), _, upd_same, ?_⟩⟩
          rw [es1]
          exact Paired.app (sts_grow (same_upd nt _ _ hL) (sts_same (same_upd nt) hzp)) (.cons (StV.growE (same_upd nt _ _ hL) ⟨t, rfl, upd_same⟩) .nil)
        · rw [if_neg c, List.append_nil] at es1
          refine iteN (decide_eq_false c) ⟨s8, zs, hL, ?_⟩
          rw [es1]
          exact hzp
      · obtain ⟨s8, zs, hL, hzp⟩ := hP
        have lz : zs.length ≤ items.length := by
          rw [Paired.len hzp]
          exact sbN_len items goal k _
        refine ⟨s, L, acc, zs, rfl, rfl, s8 _ _ hacc, hL, Nat.le_of_lt (small (by omega)), ?_⟩
        have h9s : (upd H8 s (.lst (acc ++ zs))) s = some (.lst (acc ++ zs)) := upd_same
        have b9 : But s H8 (upd H8 s (.lst (acc ++ zs))) := but_upd
        have pz : Paired (StV (upd H8 s (.lst (acc ++ zs)))) (acc ++ zs) ((sb0 items goal ++ (ks.take i).flatMap (sbK items goal)) ++ sbN items goal k items.length) := Paired.app (sts_grow (s8 _ _ hacc) (sts_same s8 haccp)) (sts_grow (s8 _ _ hacc) hzp)
        have hv9 := (hv7.same s8).butE (s8 _ _ hacc) b9
        have h9 := b9 _ _ ps (s8 _ _ h7)
        have B9 : But s H5 (upd H8 s (.lst (acc ++ zs))) := b6.trans ((Same.but s7).trans ((Same.but s8).trans b9))
        generalize upd H8 s (.lst (acc ++ zs)) = H9 at *
        have et : (ks.take (i + 1)).flatMap (sbK items goal) = (ks.take i).flatMap (sbK items goal) ++ sbK items goal k := by rw [take_snoc ek, flat_snoc]
        dsimp only
        refine if_by (fun bb H' => H' = H9 ∧ ((bb = true ∧ ∃ r, goal = some r ∧ sbE items goal k = [some (k, r.2 - chR items k)]) ∨ (bb = false ∧ sbE items goal k = []))) (fun Q' kq => ?_) (fun H10 hq => ?_) (fun H10 hq => ?_)
        · cases goal with
          | none =>
            cases hv9
            exact ⟨_, rfl, rfl, _, rfl, iteN rfl (kq _ _ ⟨rfl, .inr ⟨rfl, rfl⟩⟩)⟩
          | some r =>
            obtain ⟨t, rfl, ht⟩ := hv9
            refine ⟨_, rfl, rfl, _, rfl, iteP rfl ⟨_, rfl, t, _, 0, _, rfl, rfl, .of ht, at0, _, rfl, rfl, _, rfl, ?_⟩⟩
            by_cases c1 : r.1 = k
            · refine iteP (decide_eq_true (by rw [c1])) ⟨_, rfl, t, _, 1, _, rfl, rfl, .of ht, rfl, _, rfl, _, rfl, p1, items, k, rfl, h9, _, _, rfl, rfl, _, rfl, _, _, rfl, rfl, _, rfl, ?_⟩
              by_cases c2 : (items.length : Int) < r.2 - chR items k
              · rw [decide_eq_true c2]
                exact kq _ _ ⟨rfl, .inl ⟨rfl, r, rfl, if_pos ⟨c1, c2⟩⟩⟩
              · rw [decide_eq_false c2]
                exact kq _ _ ⟨rfl, .inr ⟨rfl, if_neg fun z => c2 z.2⟩⟩
            · exact iteN (decide_eq_false fun z => c1 (V.str.inj z)) (kq _ _ ⟨rfl, .inr ⟨rfl, if_neg fun z => c1 z.1⟩⟩)
        · obtain ⟨rfl, ⟨_, r, rfl, eE⟩ | ⟨z, _⟩⟩ := hq
          · obtain ⟨t, rfl, ht⟩ := hv9
            refine ⟨_, rfl, .inl ⟨rfl, _, SqL.of h9s⟩, _, rfl, _, rfl, t, _, 1, _, rfl, rfl, .of ht, rfl, _, rfl, _, rfl, p1, items, k, rfl, h9, _, _, rfl, rfl, (by show 2 ≤ sizeLine; decide), fun u nu => ⟨s, _, _, rfl, rfl, same_upd nu _ _ h9s, small (by rw [List.length_append]; omega), ?_⟩⟩
            have su := same_upd (o := .tup [.str k, .int (r.2 - chR items k)]) nu
            refine ⟨_, _, _, rfl, B9.trans ((Same.but su).trans but_upd), _, upd_same, ?_⟩
            rw [et]
            unfold sbK
            rw [eE, ← List.append_assoc, ← List.append_assoc]
            exact Paired.app (sts_grow (su _ _ h9s) (sts_same su pz)) (.cons (StV.growE (su _ _ h9s) ⟨u, rfl, upd_same⟩) .nil)
          · cases z
        · obtain ⟨rfl, ⟨z, _⟩ | ⟨_, eE⟩⟩ := hq
          · cases z
          · refine ⟨_, _, _, rfl, B9, _, h9s, ?_⟩
            rw [et]
            unfold sbK
            rw [eE, List.append_nil, ← List.append_assoc]
            exact pz
    · obtain ⟨y7, y8, y9, rfl, b6, hs6⟩ := hP
      rw [List.length_map, List.take_length] at hs6
      exact ⟨_, rfl, q _ s (fun x o hx => b6 _ _ (ne_of_none hx nsH) (sB _ _ hx)) nsH hs6⟩
end
end UP

set_option Elab.async false
set_option linter.all false
set_option maxRecDepth 100000
set_option maxHeartbeats 4000000
/-! sets of texts: set(list), len, sorted -/
namespace UP
open PySem PySem.Spec PyProof.Rows L2
/-- the text of a row -/
def kS (e : Int × Value) : Str := match e.2 with
  | .str k _ => k
  | _ => ""
def RowS (w : World) (e : Int × Value) : Prop := ∃ k tk, e = (PySem.hashStr w k, Value.str k tk)
def addS (xs : List Str) (k : Str) : List Str := if k ∈ xs then xs else k :: xs
theorem addS_mem {xs : List Str} {k x : Str} : x ∈ addS xs k ↔ x ∈ xs ∨ x = k := by
  unfold addS
  split
  · exact ⟨.inl, fun h => h.elim id fun e => e ▸ (by assumption)⟩
  · rw [List.mem_cons]; exact Or.comm
theorem addS_nodup {xs : List Str} {k : Str} (h : xs.Nodup) : (addS xs k).Nodup := by
  unfold addS
  split
  · exact h
  · exact List.nodup_cons.mpr ⟨by assumption, h⟩
theorem addS_len (xs : List Str) (k : Str) : (addS xs k).length ≤ xs.length + 1 := by
  unfold addS
  split
  · omega
  · exact Nat.le_refl _
/-- what set(ns) holds, in some order -/
def setS (ns : List Str) : List Str := ns.foldl addS []
theorem foldS_mem : ∀ (ns xs : List Str) (x : Str), x ∈ ns.foldl addS xs ↔ x ∈ xs ∨ x ∈ ns
  | [], xs, x => by simp
  | n :: t, xs, x => by
    rw [List.foldl_cons, foldS_mem t, addS_mem, List.mem_cons]
    exact or_assoc
theorem foldS_nodup : ∀ (ns xs : List Str), xs.Nodup → (ns.foldl addS xs).Nodup
  | [], _, h => h
  | n :: t, xs, h => foldS_nodup t _ (addS_nodup h)
theorem foldS_len : ∀ (ns xs : List Str), (ns.foldl addS xs).length ≤ xs.length + ns.length
  | [], xs => Nat.le_refl _
  | n :: t, xs => by
    have h1 := foldS_len t (addS xs n)
    have h2 := addS_len xs n
    rw [List.foldl_cons, List.length_cons]
    omega
theorem setS_mem {ns : List Str} {x : Str} : x ∈ setS ns ↔ x ∈ ns := by
  unfold setS
  rw [foldS_mem]
  simp
theorem setS_nodup (ns : List Str) : (setS ns).Nodup := foldS_nodup ns [] List.nodup_nil
theorem setS_len (ns : List Str) : (setS ns).length ≤ ns.length := by
  have := foldS_len ns []
  rw [List.length_nil, Nat.zero_add] at this
  exact this
theorem setS_snoc (ns : List Str) (k : Str) : setS (ns ++ [k]) = addS (setS ns) k := by
  unfold setS
  rw [List.foldl_append]
  rfl
/-- the set of texts at a, its members xs in any order -/
def SetS (w : World) (h : Heap) (a : Addr) (xs : List Str) : Prop :=
  ∃ (o : Obj) (rs : Array (Int × Value)) (ep : Nat) (tb : SetTable), (h.get? a = some o ∧ o.ExactSet ∧ o.data = .set rs ep tb) ∧ (∀ e ∈ rs.toList, RowS w e) ∧ (rs.toList.map kS).Perm xs ∧ xs.Nodup ∧
    (rs.size < scanBound ∧ tb.fits rs.size = true) ∧ Ris tb.place.toList ∧ (w.params.followText "set-order" = true ∨ tb.led = true)
section
variable {P : Program} {w : World} {A : Around} {E : Value → Shared → Prop} {s : Shared} {a : Addr} {xs : List Str}
theorem SetS.at {h h' : Heap} (R : SetS w h a xs) (k : ∀ o, h.get? a = some o → h'.get? a = some o) : SetS w h' a xs :=
  let ⟨o, rs, ep, tb, ⟨ho, hx, hd⟩, r⟩ := R
  ⟨o, rs, ep, tb, ⟨k o ho, hx, hd⟩, r⟩
theorem row_is {e : Int × Value} (g : RowS w e) (k : Str) : ((PySem.strKind P w).is k e.2 = true) ↔ kS e = k := by
  obtain ⟨z, tk, rfl⟩ := g
  exact ⟨fun h => by
    have := eq_of_beq (show (z == k) = true from h)
    exact this, fun h => (show (z == k) = true from beq_iff_eq.mpr h)⟩
theorem rows_elems {l : List (Int × Value)} (g : ∀ e ∈ l, RowS w e) : ElemsOf (PySem.strKind P w) l := fun e he => by
  obtain ⟨z, tk, rfl⟩ := g e he
  exact ⟨⟨z, (show (z == z) = true from beq_self_eq_true z), rfl⟩, rfl⟩
/-- what stands at a after a store -/
theorem stored {h : Heap} {o : Obj} {rs rs' : Array (Int × Value)} {ep : Nat} {tb tb' : SetTable} (ho : h.get? a = some o) (hd : o.data = .set rs ep tb) :
    (h.update a (Obj.putSet rs' tb')).get? a = some { o with data := .set rs' (ep + 1) tb' } := L2.store_at ho hd
/-- behind the place of a new row: stored, and laid anew where the table is full -/
theorem sS_tail {gv : Bool → Sem Unit} (hgv : ∀ (b : Bool) (z : Shared) (Qu : Unit → Shared → Prop), Qu () z → wpAny (model P w) A (gv b) Qu E z)
    {o : Obj} {rs r1 : Array (Int × Value)} {ep : Nat} {tb t1 : SetTable} (ho : s.heap.get? a = some o) (hex : o.ExactSet) (hd : o.data = .set rs ep tb) (hr1 : ∀ e ∈ r1.toList, RowS w e)
    {ys : List Str} (hp : (r1.toList.map kS).Perm ys) (hn : ys.Nodup) (hb : r1.size < scanBound) (hf : t1.fits r1.size = true) (hris : Ris t1.place.toList) (hled : w.params.followText "set-order" = true ∨ t1.led = true)
    {dum : Bool} {R : Option Bool → Shared → Prop} (hR : ∀ h', Heap.SameBut a s.heap h' → SetS w h' a ys → R (some true) { s with heap := h' }) :
    wpAny (model P w) A (do storeSet a r1 t1
                            if (!dum && t1.tooFull) = true then do
                              gv (relayAll t1 r1 (SetTable.grown r1.size)).2.2
                              storeSet a (relayAll t1 r1 (SetTable.grown r1.size)).1 (relayAll t1 r1 (SetTable.grown r1.size)).2.1
                              pure (some true)
                            else pure (some true)) R E s := by
  have same1 := Heap.SameBut.update s.heap a (Obj.putSet r1 t1)
  have at1 := stored (a := a) (rs' := r1) (tb' := t1) ho hd
  refine wpAny_bind (wpAny_storeSet_of ho hd ?_ (fits_of_scanBound hb))
  by_cases hfull : (!dum && t1.tooFull) = true
  · rw [if_pos hfull]
    have a1 := relayAll_perm t1 r1 (SetTable.grown r1.size)
    have a2 := relayAll_fits t1 r1 (SetTable.grown r1.size)
    have a3 := L2.relayAll_ris t1 r1 (SetTable.grown r1.size)
    have a4 := L2.relayAll_led t1 r1 (SetTable.grown r1.size)
    generalize relayAll t1 r1 (SetTable.grown r1.size) = Y at a1 a2 a3 a4 ⊢
    obtain ⟨r2, t2, gave⟩ := Y
    dsimp only at a1 a2 a3 a4 ⊢
    have size2 : r2.size = r1.size := by rw [← Array.length_toList, a1.length_eq, Array.length_toList]
    refine wpAny_bind (hgv _ _ _ ?_)
    refine wpAny_bind (wpAny_storeSet_of at1 rfl ?_ (fits_of_scanBound (size2.symm ▸ hb)))
    refine wpAny_pure (hR _ (same1.trans (Heap.SameBut.update _ a _)) ⟨_, r2, _, t2, ⟨stored at1 rfl, hex, rfl⟩, fun e he => hr1 e (a1.mem_iff.mp he), (a1.map kS).trans hp, hn, ⟨size2.symm ▸ hb, a2⟩, a3, hled.imp id fun z => a4.trans z⟩)
  · rw [if_neg hfull]
    exact wpAny_pure (hR _ same1 ⟨_, r1, _, t1, ⟨at1, hex, rfl⟩, hr1, hp, hn, ⟨hb, hf⟩, hris, hled⟩)
theorem sS_add {k : Str} {tk : Tok} {Q : Bool → Shared → Prop} (R : SetS w s.heap a xs) (room : xs.length + 1 < scanBound) (hQ : ∀ b h', Heap.SameBut a s.heap h' → SetS w h' a (addS xs k) → Q b { s with heap := h' }) :
    wpAny (model P w) A (setAddHashed a (.str k tk) ((PySem.strKind P w).hash k)) Q E s := by
  obtain ⟨o, rs, ep, tb, ⟨ho, hex, hd⟩, g, pm, nd, ⟨hb, hf⟩, hr, hl⟩ := R
  have el : ElemsOf (PySem.strKind P w) rs.toList := rows_elems g
  have key : (PySem.strKind P w).is k (.str k tk) = true := (show (k == k) = true from beq_self_eq_true k)
  have scn : (Value.str k tk).scannable = true := rfl
  have lenR : rs.size = xs.length := by rw [← Array.length_toList, ← pm.length_eq, List.length_map]
  have memR : ∀ z, z ∈ xs ↔ ∃ e ∈ rs.toList, (PySem.strKind P w).is z e.2 = true := fun z => by
    rw [← pm.mem_iff, List.mem_map]
    exact ⟨fun ⟨e, h1, h2⟩ => ⟨e, h1, (row_is (g e h1) z).mpr h2⟩, fun ⟨e, h1, h2⟩ => ⟨e, h1, (row_is (g e h1) z).mp h2⟩⟩
  unfold setAddHashed setAddHashedIn
  refine wpAny_holding (wpAny_bind (wpAny_setState_of ho hd hf ?_))
  dsimp only
  rw [byScan_of scn hb el]
  simp only [↓reduceIte]
  unfold setAddByScan
  refine wpAny_bind (wpAny_bind (wpAny_rule (wpAny_bind (wpAny_setScan_of key ho hd hf el ?_))))
  cases fnd : List.findIdx? (fun e => (PySem.strKind P w).is k e.2) rs.toList with
  | some j =>
    dsimp only
    obtain ⟨hj, pj, _⟩ := List.findIdx?_eq_some_iff_getElem.mp fnd
    have inx : k ∈ xs := (memR k).mpr ⟨_, List.getElem_mem hj, pj⟩
    refine wpAny_pure (wpAny_pure (hQ _ s.heap (Heap.SameBut.refl a s.heap) ?_))
    have e : addS xs k = xs := if_pos inx
    rw [e]
    exact ⟨o, rs, ep, tb, ⟨ho, hex, hd⟩, g, pm, nd, ⟨hb, hf⟩, hr, hl⟩
  | none =>
    dsimp only
    have nin : k ∉ xs := fun z => by
      obtain ⟨e, he, q⟩ := (memR k).mp z
      rw [List.findIdx?_eq_none_iff.mp fnd e he] at q
      cases q
    have e : addS xs k = k :: xs := if_neg nin
    rw [e] at hQ
    have gave' : ∀ (b : Bool) {z : Shared} {Qu : Unit → Shared → Prop}, Qu () z → wpAny (model P w) A (match b with | true => rule "set.scan.the-table-gave-way" | false => pure ()) Qu E z := fun b z Qu q => by
      cases b
      · exact wpAny_pure q
      · exact wpAny_rule q
    have b1 := layNew_perm tb rs ((PySem.strKind P w).hash k) (.str k tk)
    have b2 := layNew_fits tb rs ((PySem.strKind P w).hash k) (.str k tk)
    have b3 := L2.layNew_ris tb rs ((PySem.strKind P w).hash k) (.str k tk) hr
    have b4 := L2.layNew_led tb rs ((PySem.strKind P w).hash k) (.str k tk)
    generalize layNew tb rs ((PySem.strKind P w).hash k) (.str k tk) = Y at b1 b2 b3 b4 ⊢
    obtain ⟨r1, t1, dum, gave⟩ := Y
    dsimp only at b1 b2 b3 b4 ⊢
    rw [Array.toList_push] at b1
    have c1 : r1.toList.Perm (((PySem.strKind P w).hash k, Value.str k tk) :: rs.toList) := b1.trans (List.perm_append_singleton _ _)
    have c2 : (r1.toList.map kS).Perm (k :: xs) := (c1.map kS).trans (pm.cons k)
    have c3 : ∀ e ∈ r1.toList, RowS w e := fun e he => (List.mem_cons.mp (c1.mem_iff.mp he)).elim (fun z => ⟨k, tk, z⟩) (g e)
    have c4 : (k :: xs).Nodup := List.nodup_cons.mpr ⟨nin, nd⟩
    have c5 : r1.size < scanBound := by
      have z := c1.length_eq
      rw [Array.length_toList, List.length_cons, Array.length_toList, lenR] at z
      omega
    have c6 : w.params.followText "set-order" = true ∨ t1.led = true := hl.imp id fun z => b4.trans z
    refine wpAny_bind (gave' _ ?_)
    split
    · refine wpAny_bind ?_
      rw [hashByValue_scannable 8 scn]
      refine wpAny_pure (sS_tail ?_ ho hex hd c3 c2 c4 c5 ?_ ?_ ?_ ?_)
      · intro b z Qu q
        cases b
        · exact wpAny_pure q
        · exact wpAny_rule q
      · first | (split <;> first | exact b2 | exact SetTable.fits_plain_off b2) | exact b2
      · first | (split <;> exact b3) | exact b3
      · first | (split <;> exact c6) | exact c6
      · intro h' sb r
        dsimp only
        exact wpAny_pure (hQ _ h' sb r)
    · refine wpAny_bind (wpAny_pure ?_)
      simp only [↓reduceIte]
      refine sS_tail ?_ ho hex hd c3 c2 c4 c5 b2 b3 c6 ?_
      · intro b z Qu q
        cases b
        · exact wpAny_pure q
        · exact wpAny_rule q
      · intro h' sb r
        dsimp only
        exact wpAny_pure (hQ _ h' sb r)
theorem sS_new {h : Heap} (ho : h.get? a = some { cls := .type "set", dict := none, data := .set #[] 0 (.fresh 0 0 (!w.params.followText "set-order")) }) : SetS w h a [] := by
  refine ⟨_, #[], 0, _, ⟨ho, ⟨rfl, rfl, rfl⟩, rfl⟩, fun e he => ?_, List.Perm.refl _, List.nodup_nil, ⟨by decide, by rfl⟩, List.Pairwise.nil, ?_⟩
  · simp at he
  · show _ ∨ (!w.params.followText "set-order") = true
    cases w.params.followText "set-order"
    · exact .inr rfl
    · exact .inl rfl
/-- the walk that adds -/
theorem sS_update {I : Addr} {fp wr : List Addr} {G : Array GenState → Array GenState → Prop} {n : Nat} {Pv : Nat → Value → Prop} {St : Nat → Shared → Prop} {R : Result → Shared → Prop}
    (W : WalksS P w A.in1 I fp wr G n Pv St) (S : Addr) (out : S ∉ fp) (ns : List Str) (hn : n = ns.length) (hb : ns.length + 1 < scanBound) (hval : ∀ (i : Nat) (v : Value), Pv i v → ∃ (k : Str) (t : Tok), ns[i]? = some k ∧ v = Value.str k t) :
    ∀ (k i : Nat) (s : Shared), n - i = k → i ≤ n → St i s → SetS w s.heap S (setS (ns.take i)) → (∀ s', Moved (S :: wr) G s s' → SetS w s'.heap S (setS ns) → R (.ok (.ret .none)) s') →
      codeAny (model P w) A (.builtin "set.update.loop" ⟨[.ref S, .ref I], []⟩) R s := by
  have outW : S ∉ wr := fun h => out (W.sub _ h)
  have more : ∀ b ∈ wr, b ∈ S :: wr := fun b hb => List.mem_cons_of_mem _ hb
  intro k
  induction k with
  | zero =>
    intro i s ek hi hst hS hR
    have ei : i = n := by omega
    subst ei
    refine codeAny_builtin PyProof.Rows.F.entry_set_update_loop ?_
    rw [Around.under_plainId PyProof.Rows.F.plain_set_update_loop _]
    show wpAny _ A.in1 (pyNext (.ref I) >>= _) _ _ s
    refine wpAny_bind (W.done s _ _ hst fun s' hm => ?_)
    show wpAny _ A.in1 (ret Value.none) _ _ s'
    rw [List.take_of_length_le (Nat.le_of_eq hn.symm)] at hS
    exact wpAny_pure (hR s' (hm.mono more) (hS.at fun o e => hm.heap S o outW e))
  | succ k ih =>
    intro i s ek hi hst hS hR
    have lt : i < n := by omega
    refine codeAny_builtin PyProof.Rows.F.entry_set_update_loop ?_
    rw [Around.under_plainId PyProof.Rows.F.plain_set_update_loop _]
    show wpAny _ A.in1 (pyNext (.ref I) >>= _) _ _ s
    refine wpAny_bind (W.item i s _ _ lt hst fun v s' hP hst' hm => ?_)
    obtain ⟨z, t, hz, rfl⟩ := hval i v hP
    have hS' : SetS w s'.heap S (setS (ns.take i)) := hS.at fun o e => hm.heap S o outW e
    have lz : (setS (ns.take i)).length + 1 < scanBound := by
      have h1 := setS_len (ns.take i)
      rw [List.length_take] at h1
      omega
    show wpAny _ A.in1 (holding [Value.str z t] (setAdd S (.str z t)) >>= _) _ _ s'
    refine wpAny_bind (wpAny_holding ?_)
    unfold setAdd
    refine wpAny_holding (wpAny_bind ((PySem.strKind P w).pyHash (k := z) (show (z == z) = true from beq_self_eq_true z) ?_))
    refine sS_add (s := { s' with toks := s'.toks + 1 }) hS' lz fun b h' same hS2 => ?_
    have hS3 : SetS w h' S (setS (ns.take (i + 1))) := by
      have e : ns.take (i + 1) = ns.take i ++ [z] := by rw [List.take_add_one, hz] <;> rfl
      rw [e, setS_snoc]
      exact hS2
    refine wpAny_pure ⟨plainId_quiet PyProof.Rows.F.plain_set_update_loop _, ih (i + 1) _ (by omega) lt (W.frame _ s' _ _ hst' (Nat.le_succ _) fun b hb o e => ?_) hS3 fun s2 hm2 hS4 => ?_⟩
    · have ne : b ≠ S := fun h => out (h ▸ hb)
      rw [same.2 b ne]
      exact e
    · refine hR s2 (Moved.trans W.gtrans ((hm.mono more).then_heap (Nat.le_succ _) fun b o hb e => ?_) hm2) hS4
      have ne : b ≠ S := fun h => hb (h ▸ List.mem_cons_self)
      rw [same.2 b ne]
      exact e
abbrev freshS (w : World) : Obj := { cls := .type "set", dict := none, data := .set #[] 0 (.fresh 0 0 (!w.params.followText "set-order")) }
/-- set(l), l a list of texts -/
theorem set_strs {l : Addr} {its : Array Value} (ns : List Str) {Q : Value → Shared → Prop} (hh : A.handled = none) (hl : s.heap.IsList l its) (hz : its.size = ns.length) (hv : ∀ (i : Nat) (v : Value), its[i]? = some v → ∃ (k : Str) (t : Tok), ns[i]? = some k ∧ v = Value.str k t)
    (hb : ns.length + 1 < scanBound) (q : ∀ (h' : Heap) (tk : Nat), SetS w h' s.heap.objs.size (setS ns) → (∀ b o, s.heap.get? b = some o → h'.get? b = some o) → Q (.ref s.heap.objs.size) { s with heap := h', toks := tk }) :
    wpAny (model P w) A (call (.type "set") [.ref l]) Q E s := by
  obtain ⟨c, tl, hmro⟩ := PySem.F.called_set.mro
  have made := PySem.F.called_set.made
  have subs := PySem.F.called_set.sub
  refine wpAny_call (codeAny_of_tree ?_)
  show wpAny _ _ (callAny (.type "set") _) _ _ _
  refine wpAny_pure ⟨Code.quiet_builtin _ (by decide +kernel), codeAny_builtin PySem.F.entry_type_call ?_⟩
  rw [Around.under_plain (weight_type_call_type "set" [.ref l] []) rfl]
  have t1 := PySem.F.called_set.notType
  have t2 := PySem.F.called_set.canCreate
  have t3 := PySem.F.typeCall_set_1 (.ref l)
  repeat (any_goals (first | assumption | wp_step))
  refine codeAny_mono (L2.code_set_led1 (.ref l) (E := E) (Q₁ := fun ob z => ob = .ref s.heap.objs.size ∧ z = { s with heap := s.heap.push (freshS w) }) ⟨rfl, rfl⟩) fun r z hr => ?_
  cases r with
  | error e => exact hr
  | ok fl =>
    cases fl with
    | ret ob =>
      obtain ⟨rfl, rfl⟩ := hr
      have atS : (s.heap.push (freshS w)).get? s.heap.objs.size = some (freshS w) := Heap.get?_push_size _ rfl
      have isS : Shared.TypeIs { s with heap := s.heap.push (freshS w) } (.ref s.heap.objs.size) "set" := ⟨_, atS, rfl⟩
      have i1 := PySem.F.called_set.init.lookup
      have i2 := PySem.F.called_set.init.bind (.ref s.heap.objs.size)
      repeat (any_goals (first | assumption | wp_step))
      refine codeAny_mono (codeAny_call_builtin (R := wants (fun r z => r = .none ∧ ∃ h' tk, z = { s with heap := h', toks := tk } ∧ SetS w h' s.heap.objs.size (setS ns) ∧ (∀ b o, s.heap.get? b = some o → h'.get? b = some o)) E)
        PySem.F.called_set.init.plain PySem.F.entry_set_init (check_set_init_1 isS ?_)) fun r2 z2 hr2 => ?_
      · obtain ⟨ol, hol, hcl, nl, hdl⟩ := hl
        obtain ⟨ocls, odict, odata, oslots⟩ := ol
        simp only at hcl hdl
        subst hcl
        subst hdl
        have hol2 : (s.heap.push (freshS w)).get? l = some { cls := .type "list", dict := odict, data := .seq its nl, slots := oslots } := Heap.get?_push_of_some _ hol
        have u1 := PySem.F.sub_list_set
        have u2 := PySem.F.sub_list_frozenset
        have u3 : (Value.type "list" == Value.type "dict") = false := by decide
        have isL : (s.heap.push (freshS w)).IsList l its := ⟨_, hol2, rfl, nl, rfl⟩
        unfold Builtin.«set.__init__» noKeywords Builtin.Frozenset.updateFrom
        generalize ePI : pyIter = PI
        wp_walk
        subst ePI
        refine wpAny_pyIter_list isL ?_
        refine wpAny_bind (wpAny_runValue ?_)
        have lt : l < s.heap.objs.size := Heap.lt_size hol
        have cold : A.in1.in1.in1.handled = none := by simp [hh]
        have sz1 : (s.heap.push (freshS w)).objs.size = s.heap.objs.size + 1 := Heap.size_push ..
        have neI : l ≠ (s.heap.push (freshS w)).objs.size := sz1.symm ▸ Nat.ne_of_lt (Nat.lt_succ_of_lt lt)
        have notIn : s.heap.objs.size ∉ [(s.heap.push (freshS w)).objs.size, l] := by
          rw [sz1]
          intro hm
          rcases List.mem_cons.mp hm with e | e
          · exact Nat.ne_of_lt (Nat.lt_succ_self _) e
          · exact Nat.ne_of_gt lt (List.mem_singleton.mp e)
        refine sS_update ((Walks.list cold _ l neI its).toS) s.heap.objs.size notIn ns hz hb hv (its.size - 0) 0 _ (by omega) (Nat.zero_le _) ⟨⟨_, Heap.get?_push_size _ rfl, rfl, rfl⟩, (isL.push _)⟩ ?first ?last
        case first => exact sS_new (Heap.get?_push_of_some _ atS)
        case last =>
          intro s' hm hS'
          obtain ⟨h', g2, d2, tk2, os2⟩ := s'
          have eg : g2 = s.gens := hm.gens
          have ed : d2 = s.drawn := hm.drawn
          have eo : os2 = s.os := hm.os
          subst eg
          subst ed
          subst eo
          show wpAny _ _ _ _ _ _
          refine wpAny_pure ?_
          show wpAny _ _ (ret Value.none) _ _ _
          refine wpAny_pure ⟨rfl, h', tk2, rfl, hS', fun b o e => ?_⟩
          have lb : b < s.heap.objs.size := Heap.lt_size e
          refine hm.heap b o (fun z => ?_) (Heap.get?_push_of_some _ (Heap.get?_push_of_some _ e))
          rcases List.mem_cons.mp z with z | z
          · exact Nat.ne_of_lt lb z
          · exact Nat.ne_of_lt (Nat.lt_succ_of_lt lb) ((List.mem_singleton.mp z).trans sz1)
      · cases r2 with
        | error e => exact hr2
        | ok fl2 =>
          cases fl2 with
          | ret r =>
            obtain ⟨rfl, h', tk2, rfl, hS', hk⟩ := hr2
            repeat (any_goals (first | assumption | wp_step))
            exact q _ _ hS' hk
          | _ => exact hr2.elim
    | _ => exact hr.elim
theorem strs_rows : ∀ (l : List Value) (ys : List Str), (∀ v ∈ l, ∃ k tk, v = Value.str k tk) → l.map (fun v => match v with | .str k _ => k | _ => "") = ys → StrsAre l ys
  | [], _, _, rfl => .nil
  | v :: l, _, h, rfl => by
    obtain ⟨k, tk, rfl⟩ := h v List.mem_cons_self
    exact .cons k tk (strs_rows l _ (fun u hu => h u (List.mem_cons_of_mem _ hu)) rfl)
/-- sorted(set) -/
theorem sorted_setS {Q : Value → Shared → Prop} (R : SetS w s.heap a xs) (hh : A.handled = none) (h64 : xs.length < 64)
    (q : ∀ s' p (out : Array Value) (c : Nat) (ys : List Str), (∀ b o, s.heap.get? b = some o → s'.heap.get? b = some o) → s'.gens = s.gens → s'.os = s.os → s.heap.objs.size ≤ p → s'.heap.get? p = some (seqObj "list" out c) →
      StrsAre out.toList ys → ys.Perm xs → sortedS ys = true → Q (.ref p) s') : wpAny (model P w) A (call (.builtin "sorted") [.ref a]) Q E s := by
  obtain ⟨o, rs, ep, tb, ⟨ho, hex, hd⟩, g, pm, nd, ⟨hb, hf⟩, hr, hl⟩ := R
  refine Calls.call_function_entry kind_sorted plain_sorted entry_sorted (args_sorted1 _) ?_
  unfold Builtin.«sorted»
  refine wpAny_bind (m := checkCount "sorted" 1 1 _) (wpAny_pure ?_)
  refine wpAny_bind (L2.collect_set (A := A.in1) hh ⟨o, ho, hex.1, hd⟩ hf hb hr hl fun s1 vs k1 hz g1 o1 pv => ?_)
  have lv : vs.length = xs.length := by rw [pv.length_eq, List.length_map, ← pm.length_eq, List.length_map]
  have sv : StrsAre vs (vs.map fun v => match v with | .str k _ => k | _ => "") := strs_rows vs _ (fun v hv => by
    obtain ⟨e, he, rfl⟩ := List.mem_map.mp (pv.mem_iff.mp hv)
    obtain ⟨k, tk, rfl⟩ := g e he
    exact ⟨k, tk, rfl⟩) rfl
  have pk : (vs.map fun v => match v with | .str k _ => k | _ => "").Perm xs := by
    have z := pv.map fun v => match v with | .str k _ => k | _ => ""
    rw [List.map_map] at z
    exact z.trans pm
  refine wpAny_bind (wpAny_newList ?_ (by rw [lv, sizeLine_eq]; omega))
  have atL : (s1.heap.push (seqObj "list" vs.toArray 0)).get? s1.heap.objs.size = some (seqObj "list" vs.toArray 0) := Heap.get?_push_size _ rfl
  refine wpAny_bind (wpAny_holding (wpAny_call_entry slot_list_sort ⟨_, atL, rfl⟩ entry_list_sort
    (list_sort_treeK strKind_oneLt atL sv.keysOf (fun v₁ v₂ rest e => keyKind_strs (by rw [← e]; exact sv)) (by rw [lv]; exact h64) fun st' hp hs => ⟨_, rfl, ?_⟩) (args_list_sort _)))
  obtain ⟨ys, y1, y2, y3⟩ := sorted_out_str sv hp hs
  obtain ⟨c, hc⟩ := sortedHeap_at (vs := vs) (out := (arrOf st').map (·.2)) atL
  refine wpAny_pure ⟨_, rfl, q _ s1.heap.objs.size _ c ys (fun b u e => ?_) g1 o1 hz hc y1 (y2.trans pk) y3⟩
  have z := k1 b u e
  have lt := Heap.lt_size z
  show (sortedHeap (s1.heap.push (seqObj "list" vs.toArray 0)) s1.heap.objs.size vs ((arrOf st').map (·.2))).get? b = some u
  rw [sortedHeap_old (Nat.ne_of_lt lt) (by rw [size_push']; exact Nat.lt_succ_of_lt lt)]
  exact Heap.get?_push_of_some _ z
end
/-- the set in the mirror heap -/
def StS (w : World) (a : Addr) (xs : List Str) : HO := .ext fun h => SetS w h a xs
theorem stS_ok {P : Program} {w : World} {H : Hp} {h : Heap} {a : Addr} {xs : List Str} (R : SetS w h a xs) : ObjOk P w H h a (StS w a xs) :=
  ⟨R, (let ⟨o, _, _, _, ⟨ho, _⟩, _⟩ := R; ⟨o, ho⟩), fun h1 h2 p k => SetS.at p k⟩
section
variable {X : Cx}
def rSetS (K : PySem.W.Frag) (w : World) : List V → Hp → VK → Prop := fun vs H Q => ∃ (l : Addr) (ns : List Str), vs = [V.ref l] ∧ SqL K H l (ns.map V.str) ∧ ns.length + 1 < scanBound ∧ ∀ a, H a = none → Q (.ref a) (upd H a (StS w a (setS ns)))
theorem cr_setS (hc : X.calm = true) : CallR X (.type "set") (rSetS X.K X.w) := by
  intro pins s σ H vs us Q I r h
  obtain ⟨l, ns, rfl, hl, hb, q⟩ := h
  rw [Vals.ref1 r]
  obtain ⟨its, rv, pl, _⟩ := I.list hl
  have hz : its.toArray.size = ns.length := by rw [List.size_toArray, ← rv.length, List.length_map]
  refine set_strs (P := X.prog) (w := X.w) ns (I.ok.hd hc) pl.isList hz (fun i v hv => ?_) hb fun h' tk R k => ?_
  · have lt : i < ns.length := by
      rw [← hz]
      exact (Array.getElem?_eq_some_iff.mp hv).1
    obtain ⟨u, hu, t, et⟩ := rv.get (i := i) (x := .str ns[i]) (by simp [lt])
    have ev : its[i]? = some v := by simpa using hv
    rw [hu] at ev
    exact ⟨ns[i], t, List.getElem?_eq_getElem lt, (Option.some.inj ev).symm.trans et⟩
  · exact ⟨.ref s.heap.objs.size, upd H s.heap.objs.size (StS X.w s.heap.objs.size (setS ns)), I.laid (t' := tk) k (Nat.le_refl _) (stS_ok R), rfl, q _ (I.hok.fresh (Nat.le_refl _))⟩
def rSortSS (w : World) : List V → Hp → VK → Prop := fun vs H Q => ∃ (a : Addr) (xs : List Str), vs = [V.ref a] ∧ H a = some (StS w a xs) ∧ xs.length < 64 ∧ ∀ (ys : List Str) (p : Addr), ys.Perm xs → sortedS ys = true → H p = none → Q (.ref p) (upd H p (.lst (ys.map V.str)))
theorem cr_sortSS (hc : X.calm = true) : CallR X (.builtin "sorted") (rSortSS X.w) := by
  intro pins s σ H vs us Q I r h
  obtain ⟨a, xs, rfl, ha, h64, q⟩ := h
  have R : SetS X.w s.heap a xs := (I.hok a _ ha).1
  rw [Vals.ref1 r]
  refine sorted_setS R (I.ok.hd hc) h64 fun s' p out c ys k g o hp hg hs pm so => ?_
  have few : (ys.map V.str).length ≤ sizeLine := by rw [List.length_map, pm.length_eq, sizeLine_eq]; omega
  have hn : H p = none := I.hok.fresh hp
  have J : Inv X pins σ (upd H p (.lst (ys.map V.str))) { s with heap := s'.heap, gens := s'.gens, drawn := s'.drawn, toks := s'.toks } :=
    I.call (ch := []) (Un.laid k hp hn) (I.hok.laid k hp ⟨few, out.toList, c, vals_of_strs hs, hg⟩) (by rw [g]; exact I.bare) (fun _ z => nomatch z)
  have e : s' = { s with heap := s'.heap, gens := s'.gens, drawn := s'.drawn, toks := s'.toks } := by
    cases s'
    cases s
    cases o
    rfl
  rw [e]
  exact ⟨.ref p, _, J, rfl, q ys p pm so hn⟩
def rLenSS (w : World) : List V → Hp → VK → Prop := fun vs H Q => ∃ (a : Addr) (xs : List Str), vs = [V.ref a] ∧ H a = some (StS w a xs) ∧ Q (.int (xs.length : Nat)) H
theorem cr_lenSS : CallR X (.builtin "len") (rLenSS X.w) := by
  intro pins s σ H vs us Q I r h
  obtain ⟨a, xs, rfl, ha, q⟩ := h
  obtain ⟨o, rs, ep, tb, ⟨ho, hex, hd⟩, _, pm, _, ⟨hb, hf⟩, _⟩ := (show SetS X.w s.heap a xs from (I.hok a _ ha).1)
  have e : rs.size = xs.length := by rw [← Array.length_toList, ← pm.length_eq, List.length_map]
  rw [Vals.ref1 r]
  have few : (rs.size : Int) < 2 ^ 63 := by
    unfold scanBound at hb
    omega
  exact call_len_set ho hex hd hf few ⟨.int (xs.length : Nat), H, I.tok _, ⟨_, by rw [e]⟩, q⟩
/-! the same, the frag and the world named -/
theorem cr_setSw {K : PySem.W.Frag} {w : World} (hK : X.K = K) (hw : X.w = w) (hc : X.calm = true) : CallR X (.type "set") (rSetS K w) := by
  subst hK
  subst hw
  exact cr_setS hc
theorem cr_sortSSw {w : World} (hw : X.w = w) (hc : X.calm = true) : CallR X (.builtin "sorted") (rSortSS w) := by
  subst hw
  exact cr_sortSS hc
theorem cr_lenSSw {w : World} (hw : X.w = w) : CallR X (.builtin "len") (rLenSS w) := by
  subst hw
  exact cr_lenSS
end
end UP

set_option Elab.async false
set_option linter.all false
set_option maxRecDepth 100000
set_option maxHeartbeats 4000000
set_option pp.maxSteps 600
namespace UP
open PySem PySem.Spec PyProof.Rows L2
theorem pe_glS {X : Cx} {x : Str} {z : Str} {pos : Pos} (h : ∃ t, X.mg x = some (.str z t)) (hg : Gl X x) (hd : (x == ("__debug__" : Str)) = false := by decide) : PE X (.Name x pos) (tC (.str z)) := by
  obtain ⟨t, h⟩ := h
  exact pe_glob hg h ⟨t, rfl⟩ hd
theorem inV_strsW (k : Str) (ks : List Str) : inV (.str k) (ks.map V.str) = decide (k ∈ ks) := by
  unfold inV
  rw [List.any_map]
  induction ks with
  | nil => rfl
  | cons x t ih =>
    rw [List.any_cons, ih]
    by_cases e : k = x
    · subst e
      simp [eqV]
    · have e2 : ¬ x = k := fun z => e z.symm
      simp [eqV, e, e2]
theorem flat_strsW (ks : List Str) : (ks.map V.str).all flatV = true := by
  rw [List.all_map, List.all_eq_true]
  intro k _
  rfl
theorem nodup_sub : ∀ (l B : List Str), l.Nodup → (∀ x ∈ l, x ∈ B) → l.length ≤ B.length
  | [], _, _, _ => Nat.zero_le _
  | x :: l, B, nd, sub => by
    obtain ⟨n1, n2⟩ := List.nodup_cons.mp nd
    have hx := sub x List.mem_cons_self
    have h1 := nodup_sub l (B.erase x) n2 fun y hy => (List.mem_erase_of_ne (fun e => n1 (by rw [← e]; exact hy))).mpr (sub y (List.mem_cons_of_mem _ hy))
    have h2 := List.length_erase_of_mem hx
    have h3 := List.length_pos_of_mem hx
    rw [List.length_cons]
    omega
theorem str_atW {l : List Str} {i : Nat} {x : V} (h : (l.map V.str)[i]? = some x) : ∃ k, l[i]? = some k ∧ x = .str k := by
  rw [List.getElem?_map] at h
  obtain ⟨k, ek, rfl⟩ := Option.map_eq_some_iff.mp h
  exact ⟨k, ek, rfl⟩
/-! ### a kind that does not come -/
theorem step_kind {F : Str → Prop} {s : Option Run} {x : Str} (hx : F x) (hs : ∀ r, s = some r → F r.1) : ∀ r, stepR s x 1 = some r → F r.1 := by
  intro r e
  cases s with
  | none =>
    cases e
    exact hx
  | some y =>
    have hy := hs y rfl
    by_cases c : y.1 = x
    · rw [step_same c] at e
      cases e
      exact hx
    · rw [step_other c] at e
      split at e
      · cases e
        exact hy
      · split at e
        · cases e
        · cases e
          exact hx
theorem stI_kind {F : Str → Prop} : ∀ (l : List Str) (s : Option Run), (∀ x ∈ l, F x) → (∀ r, s = some r → F r.1) → ∀ r, stI l s = some r → F r.1
  | [], _, _, hs => hs
  | x :: l, s, hl, hs => stI_kind l (stepR s x 1) (fun y hy => hl y (List.mem_cons_of_mem _ hy)) (step_kind (hl x List.mem_cons_self) hs)
theorem fx_free {k : Str} : ∀ (l : List Str) (n : Nat), k ∉ l → stI l (withR k n) = if l.length < n then withR k (((n - l.length : Nat)) : Int) else stI (l.drop n) none
  | [], 0, _ => rfl
  | [], n + 1, _ => (if_pos (Nat.succ_pos n)).symm
  | x :: l, 0, _ => by
    rw [if_neg (Nat.not_lt_zero _)]
    rfl
  | x :: l, n + 1, h => by
    have hx : ¬ x = k := fun e => h (by rw [e]; exact List.mem_cons_self)
    have ih := fx_free l n fun e => h (List.mem_cons_of_mem _ e)
    have e1 : stepR (withR k ((n + 1 : Nat) : Int)) x 1 = withR k (n : Int) := by
      rw [step_with (by omega) (fun z => by omega), if_neg hx]
      congr 1
      omega
    show stI l (stepR (withR k ((n + 1 : Nat) : Int)) x 1) = _
    rw [e1, ih, List.length_cons, List.drop_succ_cons]
    by_cases c : l.length < n
    · rw [if_pos c, if_pos (by omega), show n + 1 - (l.length + 1) = n - l.length by omega]
    · rw [if_neg c, if_neg (by omega)]
def EqK (A B : List Str) (k : Str) (n : Nat) : Prop := fxR A k (n : Int) = fxR B k (n : Int)
theorem free_no {B : List Str} {k : Str} (h : k ∉ B) {m n : Nat} (hm : 0 < m) : withR k (m : Int) ≠ stI (B.drop n) none := fun e => by
  rw [with_pos (by omega)] at e
  exact stI_kind (F := fun x => x ≠ k) (B.drop n) none (fun x hx z => h (by rw [← z]; exact List.mem_of_mem_drop hx)) (fun r z => by cases z) _ e.symm rfl
theorem with_num {k : Str} {a b : Nat} (ha : 0 < a) (hb : 0 < b) (e : withR k (a : Int) = withR k (b : Int)) : a = b := by
  rw [with_pos (by omega), with_pos (by omega)] at e
  have h : ((a : Nat) : Int) = ((b : Nat) : Int) := congrArg Prod.snd (Option.some.inj e)
  omega
theorem free_imp {A B : List Str} {k k' : Str} (h1 : k ∉ A) (h2 : k ∉ B) (h3 : k' ∉ A) (h4 : k' ∉ B) {n : Nat} (h : EqK A B k n) : EqK A B k' n := by
  unfold EqK fxR at h ⊢
  rw [fx_free A n h1, fx_free B n h2] at h
  rw [fx_free A n h3, fx_free B n h4]
  by_cases ca : A.length < n
  · rw [if_pos ca] at h ⊢
    by_cases cb : B.length < n
    · rw [if_pos cb] at h ⊢
      rw [with_num (by omega) (by omega) h]
    · rw [if_neg cb] at h
      exact absurd h (free_no h2 (by omega))
  · rw [if_neg ca] at h ⊢
    by_cases cb : B.length < n
    · rw [if_pos cb] at h
      exact absurd h.symm (free_no h1 (by omega))
    · rw [if_neg cb] at h ⊢
      exact h
/-- the same effects up to the greater length -/
def AllEq (A B : List Str) : Prop := ∀ (k : Str) (n : Nat), n ≤ max A.length B.length → EqK A B k n
theorem AllEq.of {A B : List Str} {o : Str} (ho : o ∉ A ∧ o ∉ B) (h1 : ∀ k, k ∈ A ++ B → ∀ n : Nat, n ≤ max A.length B.length → EqK A B k n) (h2 : ∀ n : Nat, n ≤ max A.length B.length → EqK A B o n) : AllEq A B := fun k n hn => by
  by_cases c : k ∈ A ++ B
  · exact h1 k c n hn
  · exact free_imp ho.1 ho.2 (fun z => c (List.mem_append_left _ z)) (fun z => c (List.mem_append_right _ z)) (h2 n hn)
theorem AllEq.symm {A B : List Str} (h : AllEq A B) : AllEq B A := fun k n hn => (h k n (by rw [Nat.max_comm]; exact hn)).symm
/-! ### another kind -/
def t3 (n : Nat) : Str := ⟨#[97, 97, 97 + n]⟩
theorem t3_nd : ((List.range 22).map t3).Nodup := by decide +kernel
theorem t3_ok : ∀ n : Fin 22, KindOk (t3 n.val) := by decide +kernel
def azS : Str := "abcdefghijklmnopqrstuvwxyz"
section
variable {P : Program} {w : World} {K : PySem.W.Frag} {mg : Str → Option Value} {base : Heap}
/-! three_letters: slots 0:number -/
abbrev s_three_letters : Stmt := topS 61
theorem sc_three_letters : FnScope ["number"] ["number"] (defScope s_three_letters) := ⟨rfl, rfl, rfl, by decide +kernel, rfl, by decide +kernel, by decide +kernel⟩
def sp_three_letters : Sp := fun vs H Q _ => ∃ n : Nat, vs = [.int n] ∧ n ≤ 21 ∧ Q (.str (t3 n)) H
theorem ok_three_letters (D : Df K mg "three_letters" s_three_letters) (T : Tx mg) : Has P w K mg base 1 "three_letters" ["number"] sp_three_letters := by
  refine has_of D sc_three_letters (fun _ _ _ _ _ _ us hl => match us, hl with | [_], _ => rfl) (fun vs H Q E h => ?_) (fun f cdv A outer s₀ H vs Q E hr h => ?_)
  · obtain ⟨_, rfl, _⟩ := h
    rfl
  · obtain ⟨n, rfl, hn, q⟩ := h
    refine ⟨_, (pss_one (ps_ret (pe_op op_add_str (pe_op op_add_str (pe_ix ix_str (pe_glS T.s_LETTERS (by rfl)) (pe_op op_fdivW (pv 0) pe_int) (fun _ _ => rfl)) (pe_ix ix_str (pe_glS T.s_LETTERS (by rfl)) (pe_op op_mod (pe_op op_fdivW (pv 0) pe_int) pe_int) (fun _ _ => rfl))) (pe_ix ix_str (pe_glS T.s_LETTERS (by rfl)) (pe_op op_mod (pv 0) pe_int) (fun _ _ => rfl))))), ?_⟩
    have e1 : (n : Int) / 676 = 0 := by omega
    have e2 : (n : Int) / 26 % 26 = 0 := by omega
    have e3 : (n : Int) % 26 = n := by omega
    have at0 : atI azS.cps.toList 0 = some 97 := by decide +kernel
    have atn : atI azS.cps.toList (n : Int) = some (97 + n) := atI_ofR (by omega) (by
      rw [Int.toNat_natCast]
      have h : ∀ m : Fin 22, azS.cps.toList[m.val]? = some (97 + m.val) := by decide +kernel
      exact h ⟨n, by omega⟩)
    have small : azS.length ≤ sizeLine := by decide +kernel
    refine ⟨_, rfl, _, _, rfl, rfl, ⟨by decide, by decide +kernel⟩, azS, _, 97, rfl, rfl, small, by rw [e1]; exact at0, ?_⟩
    refine ⟨_, rfl, _, _, rfl, rfl, ⟨by decide, by decide +kernel⟩, _, _, rfl, rfl, (by show (0 : Int) < 26; decide), azS, _, 97, rfl, rfl, small, by rw [e2]; exact at0, _, _, rfl, rfl, by show 1 + 1 ≤ sizeLine; decide, ?_⟩
    refine ⟨_, rfl, _, _, rfl, rfl, (by show (0 : Int) < 26; decide), azS, _, 97 + n, rfl, rfl, small, by rw [e3]; exact atn, _, _, rfl, rfl, by show 2 + 1 ≤ sizeLine; decide, ?_⟩
    exact q
/-! other_kind: slots 0:kinds 1:number -/
abbrev s_other_kind : Stmt := topS 60
theorem sc_other_kind : FnScope ["kinds", "number"] ["kinds"] (defScope s_other_kind) := ⟨rfl, rfl, rfl, by decide +kernel, rfl, by decide +kernel, by decide +kernel⟩
def sp_other_kind : Sp := fun vs H Q _ => ∃ (a : Addr) (ks : List Str), vs = [.ref a] ∧ H a = some (.lst (ks.map V.str)) ∧ ks.length ≤ 20 ∧ ∀ o, o ∉ ks → KindOk o → Q (.str o) H
theorem ok_other_kind (D : Df K mg "other_kind" s_other_kind) (G_three_letters : Has P w K mg base 1 "three_letters" ["number"] sp_three_letters) : Has P w K mg base 2 "other_kind" ["kinds"] sp_other_kind := by
  refine has_of D sc_other_kind (fun _ _ _ _ _ _ us hl => match us, hl with | [_], _ => rfl) (fun vs H Q E h => ?_) (fun f cdv A outer s₀ H vs Q E hr h => ?_)
  · obtain ⟨_, _, rfl, _⟩ := h
    rfl
  · obtain ⟨a, ks, rfl, ha, l20, q⟩ := h
    refine ⟨_, (pss_cons (ps_set (i := 1) sc_other_kind.nd rfl (by first | exact Or.inl rfl | exact Or.inr rfl) pe_int)
    (pss_cons (ps_while PassesOwn.never (pt_cmpR op_in_seq (pe_callH G_three_letters (hr.mono (by omega)) (by rfl) (pa_cons (pv 1) pa_nil)) (pv 0) (by with_unfolding_all rfl))
      (pss_one (ps_aug (i := 1) sc_other_kind.nd rfl (by first | exact Or.inl rfl | exact Or.inr rfl) pe_int ip_add)))
    (pss_one (ps_ret (pe_callH G_three_letters (hr.mono (by omega)) (by rfl) (pa_cons (pv 1) pa_nil)))))), ?_⟩
    refine ⟨fun m σ H' => ∃ n : Nat, σ = [some (.ref a), some (.int n)] ∧ H' = H ∧ m = 21 - n ∧ ∀ j < n, t3 j ∈ ks, ⟨_, 0, rfl, rfl, rfl, fun j hj => absurd hj (Nat.not_lt_zero _)⟩, fun m σ H' hP => ?_⟩
    obtain ⟨n, rfl, rfl, rfl, hn⟩ := hP
    have n20 : n ≤ 20 := by
      have h := nodup_sub ((List.range n).map t3) ks ?_ ?_
      · rw [List.length_map, List.length_range] at h
        omega
      · by_cases c : n ≤ 22
        · have e : (List.range n).map t3 = ((List.range 22).map t3).take n := by
            rw [← List.map_take, List.take_range, Nat.min_eq_left c]
          rw [e]
          exact t3_nd.sublist (List.take_sublist ..)
        · exfalso
          have h := nodup_sub ((List.range 22).map t3) ks t3_nd fun x hx => by
            obtain ⟨j, hj, rfl⟩ := List.mem_map.mp hx
            exact hn j (by have := List.mem_range.mp hj; omega)
          rw [List.length_map, List.length_range] at h
          omega
      · intro x hx
        obtain ⟨j, hj, rfl⟩ := List.mem_map.mp hx
        exact hn j (List.mem_range.mp hj)
    refine ⟨_, rfl, n, rfl, by omega, _, rfl, a, _, rfl, .inl (.of ha), rfl, flat_strsW ks, _, rfl, ?_⟩
    rw [show (if false = true then !inV (V.str (t3 n)) (ks.map V.str) else inV (V.str (t3 n)) (ks.map V.str)) = decide (t3 n ∈ ks) from inV_strsW _ _]
    by_cases c : t3 n ∈ ks
    · rw [decide_eq_true c]
      refine iteT ⟨fun σ' H'' => σ' = [some (.ref a), some (.int ((n : Int) + 1))] ∧ H'' = H', fun σ' H'' z => ⟨21 - (n + 1), by omega, n + 1, z.1, z.2, rfl, fun j hj => ?_⟩, ?_⟩
      · by_cases e : j = n
        · rw [e]
          exact c
        · exact hn j (by omega)
      · exact ⟨_, rfl, _, _, rfl, rfl, rfl, rfl⟩
    · rw [decide_eq_false c]
      exact iteF ⟨_, rfl, n, rfl, by omega, q _ c (t3_ok ⟨n, by omega⟩)⟩
/-! first_difference: slots 0:first 1:second 2:kinds 3:most 4:first_endings 5:second_endings 6:kind 7:effects 8:others 9:number -/
abbrev s_first_difference : Stmt := topS 62
theorem sc_first_difference : FnScope ["first", "second", "kinds", "most", "first_endings", "second_endings", "kind", "effects", "others", "number"] ["first", "second"] (defScope s_first_difference) := ⟨rfl, rfl, rfl, by decide +kernel, rfl, by decide +kernel, by decide +kernel⟩
def sp_first_difference : Sp := fun vs H Q _ => ∃ (a b : Addr) (A B : List Str), vs = [.ref a, .ref b] ∧ H a = some (.lst (A.map V.str)) ∧ H b = some (.lst (B.map V.str)) ∧ A.length ≤ 400 ∧ B.length ≤ 400 ∧ (∀ x ∈ A, KindOk x) ∧ (∀ x ∈ B, KindOk x) ∧ (setS (A ++ B)).length ≤ 20 ∧
  (∀ H' p v k (n : Nat), Same H H' → H p = none → H' p = some (.lst [v]) → StV H' v (withR k (n : Int)) → KindOk k → n ≤ max A.length B.length → ¬ EqK A B k n → Q (.ref p) H') ∧ ∀ H' p, Same H H' → H p = none → H' p = some (.lst []) → AllEq A B → Q (.ref p) H'
theorem ok_first_difference (D : Df K mg "first_difference" s_first_difference) (T : Tx mg) (G_endings_of : Has P w K mg base 2 "endings_of" ["items"] sp_endings_of) (G_effects_up_to : Has P w K mg base 2 "effects_up_to" ["items", "endings", "kind", "most"] sp_effects_up_to)
    (G_other_kind : Has P w K mg base 2 "other_kind" ["kinds"] sp_other_kind) (G_state_with : Has P w K mg base 1 "state_with" ["kind", "number"] sp_state_with) : Has P w K mg base 3 "first_difference" ["first", "second"] sp_first_difference := by
  refine has_of D sc_first_difference (fun _ _ _ _ _ _ us hl => match us, hl with | [_, _], _ => rfl) (fun vs H Q E h => ?_) (fun f cdv A outer s₀ H vs Q E hr h => ?_)
  · obtain ⟨_, _, _, _, rfl, _⟩ := h
    rfl
  · obtain ⟨a, b, A, B, rfl, ha, hb, lA, lB, okA, okB, s20, q1, q2⟩ := h
    refine ⟨_, (pss_cons (ps_set (i := 2) sc_first_difference.nd rfl (by first | exact Or.inl rfl | exact Or.inr rfl) (pe_callB (cr_sortSSw (w := w) rfl rfl) (by rfl) T.n_sorted (by decide +kernel) (pa_cons (pe_callTy (cr_setSw (K := K) (w := w) rfl rfl rfl) (by rfl) T.n_set (by decide +kernel) (pa_cons (pe_op op_cat (pv 0) (pv 1)) pa_nil)) pa_nil)))
    (pss_cons (ps_set (i := 3) sc_first_difference.nd rfl (by first | exact Or.inl rfl | exact Or.inr rfl) (pe_callB (call_max2 rfl) (by rfl) T.n_max (by decide +kernel) (pa_cons (pe_callB call_len_seq (by rfl) T.n_len (by decide +kernel) (pa_cons (pv 0) pa_nil)) (pa_cons (pe_callB call_len_seq (by rfl) T.n_len (by decide +kernel) (pa_cons (pv 1) pa_nil)) pa_nil))))
    (pss_cons (ps_set (i := 4) sc_first_difference.nd rfl (by first | exact Or.inl rfl | exact Or.inr rfl) (pe_callH G_endings_of (hr.mono (by omega)) (by rfl) (pa_cons (pv 0) pa_nil)))
    (pss_cons (ps_set (i := 5) sc_first_difference.nd rfl (by first | exact Or.inl rfl | exact Or.inr rfl) (pe_callH G_endings_of (hr.mono (by omega)) (by rfl) (pa_cons (pv 1) pa_nil)))
    (pss_cons (ps_for PassesOwn.never rfl (pi_list (pe_op op_cat (pv 2) (pe_lst (pa_cons (pe_callH G_other_kind (hr.mono (by omega)) (by rfl) (pa_cons (pv 2) pa_nil)) pa_nil)))) (pg_name (i := 6) sc_first_difference.nd rfl (by first | exact Or.inl rfl | exact Or.inr rfl))
      (pss_cons (ps_set (i := 7) sc_first_difference.nd rfl (by first | exact Or.inl rfl | exact Or.inr rfl) (pe_callH G_effects_up_to (hr.mono (by omega)) (by rfl) (pa_cons (pv 0) (pa_cons (pv 4) (pa_cons (pv 6) (pa_cons (pv 3) pa_nil))))))
    (pss_cons (ps_set (i := 8) sc_first_difference.nd rfl (by first | exact Or.inl rfl | exact Or.inr rfl) (pe_callH G_effects_up_to (hr.mono (by omega)) (by rfl) (pa_cons (pv 1) (pa_cons (pv 5) (pa_cons (pv 6) (pa_cons (pv 3) pa_nil))))))
    (pss_one (ps_for PassesOwn.never rfl (pi_range1 (by rfl) T.n_range (pa_cons (pe_op op_add (pv 3) pe_int) pa_nil)) (pg_name (i := 9) sc_first_difference.nd rfl (by first | exact Or.inl rfl | exact Or.inr rfl))
      (pss_one (ps_if (pt_cmpR (op_neD hr.units) (pe_ix ix_list (pv 7) (pv 9) (fun _ _ => rfl)) (pe_ix ix_list (pv 8) (pv 9) (fun _ _ => rfl)) (nomark _)) (pss_one (ps_ret (pe_lst (pa_cons (pe_callH G_state_with (hr.mono (by omega)) (by rfl) (pa_cons (pv 6) (pa_cons (pv 9) pa_nil))) pa_nil)))) pss_nil)))))))
    (pss_one (ps_ret (pe_lst pa_nil)))))))), ?_⟩
    refine ⟨_, rfl, _, rfl, a, b, _, _, rfl, rfl, ha, hb, smallE (by simp only [List.length_map]; omega), fun c nc => ?_⟩
    rw [← List.map_append]
    have sc := same_upd (o := .lst ((A ++ B).map V.str)) nc
    refine ⟨c, A ++ B, rfl, .of upd_same, (by show (A ++ B).length + 1 < 4096; rw [List.length_append]; omega), fun ps nps => ⟨ps, _, rfl, upd_same, by omega, fun ks pk pm so npk => ?_⟩⟩
    have s1 := sc.trans ((same_upd (o := StS w ps (setS (A ++ B))) nps).trans (same_upd (o := .lst (ks.map V.str)) npk))
    have hk : (upd (upd (upd H c (.lst ((A ++ B).map V.str))) ps (StS w ps (setS (A ++ B)))) pk (.lst (ks.map V.str))) pk = some (.lst (ks.map V.str)) := upd_same
    have ha1 := s1 _ _ ha
    have hb1 := s1 _ _ hb
    generalize upd (upd (upd H c (.lst ((A ++ B).map V.str))) ps (StS w ps (setS (A ++ B)))) pk (.lst (ks.map V.str)) = H1 at *
    have lks : ks.length ≤ 20 := by rw [pm.length_eq]; exact s20
    have memk : ∀ k, k ∈ ks ↔ k ∈ A ++ B := fun k => pm.mem_iff.trans setS_mem
    refine ⟨_, rfl, a, _, rfl, .inl (.of ha1), _, rfl, b, _, rfl, .inl (.of hb1), _, _, rfl, ?_⟩
    rw [List.length_map, List.length_map]
    have em : (if ((A.length : Nat) : Int) < ((B.length : Nat) : Int) then ((B.length : Nat) : Int) else ((A.length : Nat) : Int)) = ((max A.length B.length : Nat) : Int) := by
      split <;> omega
    rw [em]
    obtain ⟨M, eM⟩ : ∃ M, M = max A.length B.length := ⟨_, rfl⟩
    have mA : A.length ≤ M := by omega
    have mB : B.length ≤ M := by omega
    have m4 : M ≤ 400 := by omega
    rw [← eM]
    rw [← eM] at q1
    clear sc nc nps npk em
    refine ⟨_, rfl, a, A, rfl, ha1, lA, fun H2 ea xa s2 na hea hEa => ?_⟩
    refine ⟨_, rfl, b, B, rfl, s2 _ _ hb1, lB, fun H3 eb xb s3 nb heb hEb => ?_⟩
    have ends : ∀ {H' H'' : Hp} {xs : List V} {its : List Str}, Same H' H'' → EndL H' xs its 0 → EndL H'' xs its 0 := fun s h => ⟨h.1, fun m h1 h2 => by
      obtain ⟨v, e, sv⟩ := h.2 m h1 h2
      exact ⟨v, e, sv.same s⟩⟩
    have s13 := s2.trans s3
    have hk3 := s13 _ _ hk
    refine ⟨_, rfl, _, rfl, pk, ks, rfl, hk3, lks, fun o ho ko => ⟨(by show 1 ≤ sizeLine; decide), fun l nl => ?_⟩⟩
    have s4 := same_upd (o := .lst [.str o]) nl
    have hl4 : (upd H3 l (.lst [.str o])) l = some (.lst [.str o]) := upd_same
    refine ⟨pk, l, _, _, rfl, rfl, s4 _ _ hk3, hl4, smallE (by rw [List.length_map]; show ks.length + 1 ≤ _; omega), fun L nL => ?_⟩
    have eL : ks.map V.str ++ [V.str o] = (ks ++ [o]).map V.str := by rw [List.map_append]; rfl
    rw [eL]
    have s35 := s4.trans (same_upd (o := .lst ((ks ++ [o]).map V.str)) nL)
    have hL : (upd (upd H3 l (.lst [.str o])) L (.lst ((ks ++ [o]).map V.str))) L = some (.lst ((ks ++ [o]).map V.str)) := upd_same
    have ha5 := s35 _ _ (s13 _ _ ha1)
    have hb5 := s35 _ _ (s13 _ _ hb1)
    have hea5 := s35 _ _ (s3 _ _ hea)
    have heb5 := s35 _ _ heb
    have hEa5 := ends (s3.trans s35) hEa
    have hEb5 := ends s35 hEb
    have s05 : Same H _ := s1.trans (s13.trans s35)
    generalize upd (upd H3 l (.lst [.str o])) L (.lst ((ks ++ [o]).map V.str)) = H5 at *
    have kok : ∀ k ∈ ks ++ [o], KindOk k := fun k hk => by
      rcases List.mem_append.mp hk with z | z
      · rcases List.mem_append.mp ((memk k).mp z) with z | z
        · exact okA k z
        · exact okB k z
      · rw [List.mem_singleton.mp z]
        exact ko
    have oNo : o ∉ A ∧ o ∉ B := ⟨fun z => ho ((memk o).mpr (List.mem_append_left _ z)), fun z => ho ((memk o).mpr (List.mem_append_right _ z))⟩
    clear s4 hl4 s35 s13 s2 s3 hk hk3 ha1 hb1 hea heb hEa hEb nl nL s1 na nb
    refine ⟨L, rfl, ⟨_, .of hL⟩, for_list (K := K) (a := L) (xs := (ks ++ [o]).map V.str) (fun i σ H' => ∃ y6 y7 y8 y9, σ = [some (.ref a), some (.ref b), some (.ref pk), some (.int M), some (.ref ea), some (.ref eb), y6, y7, y8, y9] ∧ Same H5 H' ∧ ∀ k ∈ (ks ++ [o]).take i, ∀ n : Nat, n ≤ M → EqK A B k n)
      ⟨none, none, none, none, rfl, Same.refl _, fun k hk => by rw [List.take_zero] at hk; cases hk⟩ (fun i σ H' _ hP => ?_) (fun i x σ H6 ex hP => ?_) (fun σ H6 hP => ?_)⟩
    · obtain ⟨_, _, _, _, _, sm, _⟩ := hP
      exact .of (sm _ _ hL)
    · obtain ⟨y6, y7, y8, y9, rfl, sm, alle⟩ := hP
      obtain ⟨k, ek, rfl⟩ := str_atW ex
      have kk := kok k (List.mem_of_getElem? ek)
      refine ⟨_, rfl, _, rfl, _, rfl, _, rfl, a, ea, A, k, M, xa, rfl, sm _ _ ha5, sm _ _ hea5, ends sm hEa5, mA, m4, fun H7 p7 es s7 n7 h7 l7 v7 => ?_⟩
      have sm7 := sm.trans s7
      refine ⟨_, rfl, _, rfl, _, rfl, _, rfl, b, eb, B, k, M, xb, rfl, sm7 _ _ hb5, sm7 _ _ heb5, ends sm7 hEb5, mB, m4, fun H8 p8 fs s8 n8 h8 l8 v8 => ?_⟩
      have sm8 := sm7.trans s8
      obtain ⟨xs7, hx7, hp7⟩ := h7.same s8
      obtain ⟨xs8, hx8, hp8⟩ := h8
      have nfx : ∀ (X : List Str), (∀ x ∈ X, KindOk x) → ∀ m : Nat, StOk (fxR X k (m : Int)) := fun X hX m => stOk_stI X _ hX (ok_with kk (by omega))
      refine ⟨_, rfl, _, _, rfl, rfl, _, rfl, by omega, by omega, for_range (lo := 0) (n := _) (fun i2 σ H' => ∃ y9, σ = [some (.ref a), some (.ref b), some (.ref pk), some (.int M), some (.ref ea), some (.ref eb), some (.str k), some (.ref p7), some (.ref p8), y9] ∧ Same H8 H' ∧ ∀ m : Nat, m < i2 → EqK A B k m)
        ⟨_, rfl, Same.refl _, fun m hm => absurd hm (Nat.not_lt_zero _)⟩ (fun i2 σ H9 hi2 hP => ?_) (fun σ H9 hP => ?_)⟩
      · obtain ⟨y9, rfl, s9, eqs⟩ := hP
        have hi2 : i2 < M + 1 := by omega
        obtain ⟨x1, e1, g1⟩ := Paired.at' hp7 (v7 i2 hi2)
        obtain ⟨x2, e2, g2⟩ := Paired.at' hp8 (v8 i2 hi2)
        have at_ : ∀ {xs : List V} {x : V}, xs[i2]? = some x → atI xs (0 + (i2 : Int)) = some x := fun h => atI_ofR (by omega) (by rw [Int.zero_add, Int.toNat_natCast]; exact h)
        refine ⟨_, rfl, _, rfl, p7, _, _, _, rfl, rfl, .of (s9 _ _ hx7), at_ e1, _, rfl, _, rfl, p8, _, _, _, rfl, rfl, .of (s9 _ _ hx8), at_ e2, dOt (fxR A k (i2 : Int)), dOt (fxR B k (i2 : Int)), dp_o (g1.same s9), dp_o (g2.same s9), shaped_o (nfx A okA i2), shaped_o (nfx B okB i2), _, rfl, ?_⟩
        rw [eqv_o]
        by_cases c : fxR A k (i2 : Int) = fxR B k (i2 : Int)
        · rw [decide_eq_true c]
          refine iteF ⟨_, rfl, s9, fun m hm => ?_⟩
          by_cases e : m = i2
          · rw [e]
            exact c
          · exact eqs m (by omega)
        · rw [decide_eq_false c]
          refine iteT ⟨_, rfl, _, rfl, k, _, rfl, fun H10 v s10 hv => ⟨(by show 1 ≤ sizeLine; decide), fun r nr => ?_⟩⟩
          have sA : Same H5 H10 := (sm8.trans s9).trans s10
          rw [Int.zero_add] at hv
          exact q1 _ r v k i2 ((s05.trans sA).trans (same_upd nr)) ((s05.trans sA).free nr) upd_same (hv.same (same_upd nr)) kk (by omega) c
      · obtain ⟨y9, rfl, s9, eqs⟩ := hP
        refine ⟨_, _, _, _, rfl, sm8.trans s9, fun z hz n hn => ?_⟩
        rw [take_snoc ek] at hz
        rcases List.mem_append.mp hz with h | h
        · exact alle z h n hn
        · rw [List.mem_singleton.mp h]
          exact eqs n (by omega)
    · obtain ⟨y6, y7, y8, y9, rfl, sm, alle⟩ := hP
      rw [List.length_map, List.take_length] at alle
      refine ⟨Nat.zero_le _, fun r nr => ?_⟩
      rw [eM] at alle
      exact q2 _ r ((s05.trans sm).trans (same_upd nr)) ((s05.trans sm).free nr) upd_same (AllEq.of oNo (fun k hk => alle k (List.mem_append_left _ ((memk k).mpr hk))) (alle o (List.mem_append_right _ List.mem_cons_self)))
end
end UP

set_option Elab.async false
set_option linter.all false
set_option maxRecDepth 100000
set_option maxHeartbeats 4000000
set_option pp.maxSteps 600
namespace UP
open PySem PySem.Spec PyProof.Rows L2
section
variable (P : Program) (w : World) (K : PySem.W.Frag) (mg : Str → Option Value) (base : Heap)
def HasX (k : Nat) (x : Str) (ps : List Str) (sp : Sp) : Prop :=
  ∃ f fd, mg x = some (.ref f) ∧ PySem.W.keepIn K (.ref f) = true ∧ Binds K fd ps [] ∧ FnOk P w K mg base (L2.CX P w) k f fd ps sp
end
section
variable {P : Program} {w : World} {K : PySem.W.Frag} {mg : Str → Option Value} {base : Heap}
theorem hasX_of {x : Str} {st : Stmt} {ps N : List Str} {k : Nat} {sp : Sp} (D : Df K mg x st) (S : FnScope N ps (defScope st))
    (hb : ∀ (kV doc pm : Value) (an : Option Addr) (cdv ct : Value) (us : List Value), us.length = ps.length → bindArgs (PySem.W.fnOf x x (defArgs st) (defBody st) (defScope st) .none kV doc pm an cdv ct) ⟨us, []⟩ = pure (ps.zip us))
    (len : ∀ vs H Q E, sp vs H Q E → vs.length = ps.length)
    (body : ∀ (f : Addr) (cdv : Value) (A : Around) (outer : List Env) (s : Shared) (H : Hp) (vs : List V) (Q : VK) (E : XK), Room k (A.deeper (envOfC x (defScope st) s.heap.objs.size f cdv)) → sp vs H Q E →
      ∃ t, PSs (cxOf (L2.CX P w) P w K mg base N x (defScope st) f cdv A outer s H E) (defBody st) t ∧ t { nx := fun _ H' => Q .non H', rt := Q } (start N vs) H) :
    HasX P w K mg base (k + 1) x ps sp := by
  obtain ⟨f, fd, g, F⟩ := D
  exact ⟨f, fd, g, F.kp, F.binds hb, F.okX S len fun cdv A outer s H vs Q E hr h => body f cdv A outer s H vs Q E hr h⟩
end
section
variable {X : Cx}
theorem pe_callXH {k : Nat} {x : Str} {ps : List Str} {sp : Sp} {W : WX} {p pos : Pos} {e : Expr} {es : List Expr} {t : TA} (G : HasX X.prog X.w X.K X.mg X.base k x ps sp) (tk : Takes X W) (hr : Room k X.A) (hg : Gl X x) (ha : PA X (e :: es) t)
    (hdb : (x == ("__debug__" : Str)) = false := by decide) (he : starEach (e :: es) X.env = (false, eval e X.env) :: starEach es X.env := by rfl) (hpl : (backTo pos (starEach es X.env)).any (·.1) = false := by rfl) :
    PE X (.Call (.Name x p) (e :: es) [] pos) (tCallS sp (WE W) t) := by
  obtain ⟨f, fd, g, kp, b, F⟩ := G
  exact pe_callS F hr hg g kp b (fun σ => passAt tk σ) ha hdb he hpl
theorem takes_no {X : Cx} : Takes X (fun _ _ _ _ => False) := fun _ _ h => by
  obtain ⟨_, _, _, _, _, _, _, _, _, _, _, _, _, _, _, _, z⟩ := h
  exact z.elim
end
/-- the class x of errors stands at C -/
structure Ex (K : PySem.W.Frag) (mg : Str → Option Value) (x : Str) (C : Addr) : Prop where
  g : mg x = some (.ref C)
  x : PySem.W.excIn K C [.type "ValueError", .type "Exception", .type "BaseException", .type "object"] "ValueError.__new__" = true
  k : PySem.W.keepIn K (.ref C) = true
  b : PySem.W.subIn K (.ref C) (.type "BaseException") = some true
  t : PySem.W.typeIn K (.ref C) = some (.type "type")
  em : PySem.W.exmOne K (.ref C) (.ref C) = some true
theorem eqv_oneN (x : PyData) : PyData.eqv (.list [x]) (.list []) = false := by
  rw [PyData.eqv, PyData.eqvAll]
theorem shaped_oneO {k : Str} {n : Int} (kk : KindOk k) : SeqAt.shaped (.list [dOt (withR k n)]) = true := by
  unfold withR
  split
  · decide +kernel
  · exact shaped_runs (rs := [(k, n)]) fun r hr => by
      rw [List.mem_singleton.mp hr]
      exact kk
section
variable {P : Program} {w : World} {K : PySem.W.Frag} {mg : Str → Option Value} {base : Heap}
/-! have_same_effect: slots 0:first 1:second 2:first_items -/
abbrev s_have_same_effect : Stmt := topS 67
theorem sc_have_same_effect : FnScope ["first", "second", "first_items"] ["first", "second"] (defScope s_have_same_effect) := ⟨rfl, rfl, rfl, by decide +kernel, rfl, by decide +kernel, by decide +kernel⟩
def sp_have_same_effect : Sp := fun vs H Q _ => ∃ (u v : V) (rs cs : List Run), vs = [u, v] ∧ RunsG H u rs ∧ SeqOk rs ∧ lenR rs ≤ 400 ∧ RunsG H v cs ∧ SeqOk cs ∧ lenR cs ≤ 400 ∧ (setS (itR rs ++ itR cs)).length ≤ 20 ∧ ∀ H' (r : Bool), Same H H' → (r = true ↔ AllEq (itR rs) (itR cs)) → Q (.bl r) H'
theorem ok_have_same_effect (D : Df K mg "have_same_effect" s_have_same_effect) (G_items_of : Has P w K mg base 7 "items_of" ["sequence"] sp_items_of) (G_first_difference : Has P w K mg base 3 "first_difference" ["first", "second"] sp_first_difference) :
    Has P w K mg base 8 "have_same_effect" ["first", "second"] sp_have_same_effect := by
  refine has_of D sc_have_same_effect (fun _ _ _ _ _ _ us hl => match us, hl with | [_, _], _ => rfl) (fun vs H Q E h => ?_) (fun f cdv A₀ outer s₀ H vs Q E hr h => ?_)
  · obtain ⟨_, _, _, _, rfl, _⟩ := h
    rfl
  · obtain ⟨u, v, rs, cs, rfl, hu, oku, lu, hv, okv, lv, s20, q⟩ := h
    have posu : ∀ r ∈ rs, 1 ≤ r.2 := fun r hr => (oku.2.1 r hr).2.1
    have posv : ∀ r ∈ cs, 1 ≤ r.2 := fun r hr => (okv.2.1 r hr).2.1
    have e1 := len_it rs posu
    have e2 := len_it cs posv
    refine ⟨_, (pss_cons (ps_set (i := 2) sc_have_same_effect.nd rfl (by first | exact Or.inl rfl | exact Or.inr rfl) (pe_callH G_items_of (hr.mono (by omega)) (by rfl) (pa_cons (pv 0) pa_nil)))
    (pss_one (ps_ret (pe_cmpR (op_eqD hr.units) (pe_callH G_first_difference (hr.mono (by omega)) (by rfl) (pa_cons (pv 2) (pa_cons (pe_callH G_items_of (hr.mono (by omega)) (by rfl) (pa_cons (pv 1) pa_nil)) pa_nil))) (pe_lst pa_nil) (nomark _))))), ?_⟩
    refine ⟨_, rfl, u, rs, rfl, hu, oku, lu, fun H1 a s1 na ha => ?_⟩
    refine ⟨_, rfl, _, rfl, v, cs, rfl, hv.same s1, okv, lv, fun H2 b s2 nb hb => ?_⟩
    refine ⟨a, b, itR rs, itR cs, rfl, s2 _ _ ha, hb, by omega, by omega, it_kinds fun r hr => (oku.2.1 r hr).1, it_kinds fun r hr => (okv.2.1 r hr).1, s20, fun H3 p x k n s3 n3 h3 hx kk hn ne => ?_, fun H3 p s3 n3 h3 al => ?_⟩
    · refine ⟨Nat.zero_le _, fun e ne2 => ?_⟩
      have se := same_upd (o := .lst []) ne2
      refine ⟨.list [dOt (withR k n)], .list [], .lst (.of (se _ _ h3)) (.cons (dp_o (hx.same se)) .nil), .lst (.of upd_same) .nil, shaped_oneO kk, shaped_nil, ?_⟩
      rw [eqv_oneN]
      exact q _ _ (s1.trans (s2.trans (s3.trans se))) ⟨fun z => (by cases z), fun al => absurd (al k n hn) ne⟩
    · refine ⟨Nat.zero_le _, fun e ne2 => ?_⟩
      have se := same_upd (o := .lst []) ne2
      refine ⟨.list [], .list [], .lst (.of (se _ _ h3)) .nil, .lst (.of upd_same) .nil, shaped_nil, shaped_nil, ?_⟩
      exact q _ _ (s1.trans (s2.trans (s3.trans se))) ⟨fun _ => al, fun _ => (by decide +kernel)⟩
/-! state_that_differs: slots 0:first 1:second 2:first_items 3:states -/
abbrev s_state_that_differs : Stmt := topS 68
theorem sc_state_that_differs : FnScope ["first", "second", "first_items", "states"] ["first", "second"] (defScope s_state_that_differs) := ⟨rfl, rfl, rfl, by decide +kernel, rfl, by decide +kernel, by decide +kernel⟩
def sp_state_that_differs (CE : Addr) : Sp := fun vs H Q E => ∃ (u v : V) (rs cs : List Run), vs = [u, v] ∧ RunsG H u rs ∧ SeqOk rs ∧ lenR rs ≤ 400 ∧ RunsG H v cs ∧ SeqOk cs ∧ lenR cs ≤ 400 ∧ (setS (itR rs ++ itR cs)).length ≤ 20 ∧
  (∀ H' x k (n : Nat), Same H H' → StV H' x (withR k (n : Int)) → KindOk k → n ≤ max (itR rs).length (itR cs).length → ¬ EqK (itR rs) (itR cs) k n → Q x H') ∧ ∀ H', Same H H' → AllEq (itR rs) (itR cs) → E (.ref CE) none H'
theorem okX_state_that_differs {CE : Addr} (D : Df K mg "state_that_differs" s_state_that_differs) (X1 : Ex K mg "SameEffect" CE) (G_items_of : Has P w K mg base 7 "items_of" ["sequence"] sp_items_of) (G_first_difference : Has P w K mg base 3 "first_difference" ["first", "second"] sp_first_difference) :
    HasX P w K mg base 8 "state_that_differs" ["first", "second"] (sp_state_that_differs CE) := by
  refine hasX_of D sc_state_that_differs (fun _ _ _ _ _ _ us hl => match us, hl with | [_, _], _ => rfl) (fun vs H Q E h => ?_) (fun f cdv A₀ outer s₀ H vs Q E hr h => ?_)
  · obtain ⟨_, _, _, _, rfl, _⟩ := h
    rfl
  · obtain ⟨u, v, rs, cs, rfl, hu, oku, lu, hv, okv, lv, s20, q, qe⟩ := h
    have posu : ∀ r ∈ rs, 1 ≤ r.2 := fun r hr => (oku.2.1 r hr).2.1
    have posv : ∀ r ∈ cs, 1 ≤ r.2 := fun r hr => (okv.2.1 r hr).2.1
    have e1 := len_it rs posu
    have e2 := len_it cs posv
    refine ⟨_, (pss_cons (ps_set (i := 2) sc_state_that_differs.nd rfl (by first | exact Or.inl rfl | exact Or.inr rfl) (pe_callH G_items_of (hr.mono (by omega)) (by rfl) (pa_cons (pv 0) pa_nil)))
    (pss_cons (ps_set (i := 3) sc_state_that_differs.nd rfl (by first | exact Or.inl rfl | exact Or.inr rfl) (pe_callH G_first_difference (hr.mono (by omega)) (by rfl) (pa_cons (pv 2) (pa_cons (pe_callH G_items_of (hr.mono (by omega)) (by rfl) (pa_cons (pv 1) pa_nil)) pa_nil))))
    (pss_cons (ps_if (pt_cmpR (op_eqD hr.units) (pv 3) (pe_lst pa_nil) (nomark _)) (pss_one (ps_raise rfl (takes_of rfl rfl rfl rfl) (pmk_own PySem.F.excBase_ValueError X1.x X1.g X1.k (raises_own X1.b X1.t) (by exact rfl)))) pss_nil)
    (pss_one (ps_ret (pe_ix ix_list (pv 3) pe_int (fun _ _ => rfl))))))), ?_⟩
    refine ⟨_, rfl, u, rs, rfl, hu, oku, lu, fun H1 a s1 na ha => ?_⟩
    refine ⟨_, rfl, _, rfl, v, cs, rfl, hv.same s1, okv, lv, fun H2 b s2 nb hb => ?_⟩
    refine ⟨a, b, itR rs, itR cs, rfl, s2 _ _ ha, hb, by omega, by omega, it_kinds fun r hr => (oku.2.1 r hr).1, it_kinds fun r hr => (okv.2.1 r hr).1, s20, fun H3 p x k n s3 n3 h3 hx kk hn ne => ?_, fun H3 p s3 n3 h3 al => ?_⟩
    · refine ⟨_, rfl, Nat.zero_le _, fun e ne2 => ?_⟩
      have se := same_upd (o := .lst []) ne2
      refine ⟨.list [dOt (withR k n)], .list [], .lst (.of (se _ _ h3)) (.cons (dp_o (hx.same se)) .nil), .lst (.of upd_same) .nil, shaped_oneO kk, shaped_nil, _, rfl, ?_⟩
      rw [eqv_oneN]
      refine iteF ⟨_, rfl, p, _, _, _, rfl, rfl, .of (se _ _ h3), (show atI [x] 0 = some x from rfl), ?_⟩
      exact q _ x k n (s1.trans (s2.trans (s3.trans se))) (hx.same se) kk hn ne
    · refine ⟨_, rfl, Nat.zero_le _, fun e ne2 => ?_⟩
      have se := same_upd (o := .lst []) ne2
      refine ⟨.list [], .list [], .lst (.of (se _ _ h3)) .nil, .lst (.of upd_same) .nil, shaped_nil, shaped_nil, _, rfl, iteP (by decide +kernel) ?_⟩
      exact qe _ (s1.trans (s2.trans (s3.trans se))) al
end
end UP

set_option Elab.async false
set_option linter.all false
set_option maxRecDepth 100000
set_option maxHeartbeats 4000000
namespace UP
open PySem PySem.Spec PyProof.Rows L2
theorem SM.back {st : Addr} {H H' : Hp} (b : But st H H') (z : SM H' st) {p : Addr} (h : H' p = none) : H p = none := by
  by_cases e : p = st
  · obtain ⟨_, _, hs, _⟩ := z
    rw [e, hs] at h
    cases h
  · cases hp : H p with
    | none => rfl
    | some o =>
      rw [b _ _ e hp] at h
      cases h
theorem atI_ofX {α : Type} {l : List α} {i : Int} {x : α} (h0 : 0 ≤ i) (h : l[i.toNat]? = some x) : atI l i = some x := by
  have e : i = (i.toNat : Int) := by omega
  rw [e]
  exact atI_nat h
def LetOk (z : Str) : Prop := 1 ≤ z.length ∧ z.length ≤ 5 ∧ ∀ c ∈ z.cps.toList, 97 ≤ c ∧ c ≤ 101
instance (z : Str) : Decidable (LetOk z) := by
  unfold LetOk
  infer_instance
theorem let_ok {r : Int} (h0 : 0 ≤ r) (h1 : r < 4) : LetOk (cutS "abcde" none (some (2 + r))) := by
  have : r = 0 ∨ r = 1 ∨ r = 2 ∨ r = 3 := by omega
  rcases this with e | e | e | e <;> subst e <;> decide +kernel
def abcL : List Str := [⟨#[97]⟩, ⟨#[98]⟩, ⟨#[99]⟩, ⟨#[100]⟩, ⟨#[101]⟩]
theorem one_abc {c : Nat} (h : 97 ≤ c ∧ c ≤ 101) : (⟨#[c]⟩ : Str) ∈ abcL := by
  have : c = 97 ∨ c = 98 ∨ c = 99 ∨ c = 100 ∨ c = 101 := by omega
  rcases this with e | e | e | e | e <;> subst e <;> decide +kernel
theorem one_kind {c : Nat} (h : 97 ≤ c ∧ c ≤ 122) : KindOk ⟨#[c]⟩ := by
  refine ⟨Nat.le_refl 1, (by show 1 ≤ 8; decide), fun x hx => ?_⟩
  have hx : x ∈ [c] := hx
  rw [List.mem_singleton.mp hx]
  exact h
def LetOk6 (z : Str) : Prop := z.length = 6 ∧ ∀ c ∈ z.cps.toList, 97 ≤ c ∧ c ≤ 122
instance (z : Str) : Decidable (LetOk6 z) := by
  unfold LetOk6
  infer_instance
theorem let6 : LetOk6 "abcdeq" := by decide +kernel
section
variable {P : Program} {w : World} {K : PySem.W.Frag} {mg : Str → Option Value} {base : Heap}
/-! _law_sequence: slots 0:stream 1:most 2:scale 3:found 4:letters 5:k 6:kind -/
abbrev s_law_sequence : Stmt := topS 73
theorem sc_law_sequence : FnScope ["stream", "most", "scale", "found", "letters", "k", "kind"] ["stream", "most", "scale"] (defScope s_law_sequence) := ⟨rfl, rfl, rfl, by decide +kernel, rfl, by decide +kernel, by decide +kernel⟩
def sp_law_sequence : Sp := fun vs H Q _ => ∃ (st : Addr) (m g : Int), vs = [.ref st, .int m, .int g] ∧ SM H st ∧ 0 ≤ m ∧ m ≤ 400 ∧ 1 ≤ g ∧ g ≤ 1000000000000000000000000000000 ∧ ∀ H' p rs, But st H H' → SM H' st → Runs H' p rs → SeqOk rs → (rs.length : Int) ≤ m → (∀ r ∈ rs, r.2 ≤ g ∧ r.1 ∈ abcL) → Q (.ref p) H'
theorem ok_law_sequence (D : Df K mg "_law_sequence" s_law_sequence) (T : Tx mg) (G_law_draw : Has P w K mg base 1 "_law_draw" ["stream", "many"] sp_law_draw) : Has P w K mg base 2 "_law_sequence" ["stream", "most", "scale"] sp_law_sequence := by
  refine has_of D sc_law_sequence (fun _ _ _ _ _ _ us hl => match us, hl with | [_, _, _], _ => rfl) (fun vs H Q E h => ?_) (fun f cdv A outer s₀ H vs Q E hr h => ?_)
  · obtain ⟨_, _, _, rfl, _⟩ := h
    rfl
  · obtain ⟨st, m, g, rfl, z0, m0, m1, g1, g2, q⟩ := h
    refine ⟨_, (pss_cons (ps_set (i := 3) sc_law_sequence.nd rfl (by first | exact Or.inl rfl | exact Or.inr rfl) (pe_lst pa_nil))
    (pss_cons (ps_set (i := 4) sc_law_sequence.nd rfl (by first | exact Or.inl rfl | exact Or.inr rfl) (pe_slice sl_str pe_str po_none (po_some (pe_op op_add pe_int (pe_callH G_law_draw (hr.mono (by omega)) (by rfl) (pa_cons (pv 0) (pa_cons pe_int pa_nil)))))))
    (pss_cons (ps_for PassesOwn.never rfl (pi_range1 (by rfl) T.n_range (pa_cons (pe_callH G_law_draw (hr.mono (by omega)) (by rfl) (pa_cons (pv 0) (pa_cons (pe_op op_add (pv 1) pe_int) pa_nil))) pa_nil)) (pg_name (i := 5) sc_law_sequence.nd rfl (by first | exact Or.inl rfl | exact Or.inr rfl))
      (pss_cons (ps_set (i := 6) sc_law_sequence.nd rfl (by first | exact Or.inl rfl | exact Or.inr rfl) (pe_ix ix_str (pv 4) (pe_callH G_law_draw (hr.mono (by omega)) (by rfl) (pa_cons (pv 0) (pa_cons (pe_callB call_len_str (by rfl) T.n_len (by decide +kernel) (pa_cons (pv 4) pa_nil)) pa_nil))) (fun _ _ => rfl)))
    (pss_one (ps_if (PW.pt (pw_or (pt_cmpR (op_eqD hr.units) (pv 3) (pe_lst pa_nil) (nomark _)) (pw_or1 (pt_cmpR op_ne (pe_ix ix_tup (pe_ix ix_list (pv 3) (pe_un un_neg pe_int) (fun _ _ => rfl)) pe_int (fun _ _ => rfl)) (pv 6) (nomark _))))) (pss_one (ps_expr (pe_bm PySem.F.plainAttrs_list PySem.F.slot_list_append PySem.F.type_list_append mt_append (pv 3) (pa_cons (pe_tup (pa_cons (pv 6) (pa_cons (pe_op op_add pe_int (pe_callH G_law_draw (hr.mono (by omega)) (by rfl) (pa_cons (pv 0) (pa_cons (pv 2) pa_nil)))) pa_nil))) pa_nil)))) pss_nil))))
    (pss_one (ps_ret (pv 3)))))), ?_⟩
    refine ⟨Nat.zero_le _, fun p np => ?_⟩
    have nps : p ≠ st := SM.ne z0 np
    refine ⟨_, rfl, st, 4, rfl, z0.same (same_upd np), by decide, by decide, fun H2 r2 b2 z2 r20 r21 => ⟨_, _, rfl, rfl, _, rfl, _, rfl, (by decide +kernel), ?_⟩⟩
    have lok := let_ok r20 r21
    generalize cutS "abcde" none (some (2 + r2)) = z at lok
    have lok : LetOk z := lok
    have lz : z.cps.toList.length = z.length := Array.length_toList
    refine ⟨_, rfl, _, rfl, _, _, rfl, rfl, st, _, rfl, z2, (by show 1 ≤ m + 1; omega), (wide8 (by show 0 ≤ m + 1; omega) (by show m + 1 ≤ _; omega)), fun H5 r5 b5 z5 r50 r51 => ?_⟩
    have r51 : r5 < m + 1 := r51
    have hp5 : H5 p = some (.lst []) := b5 _ _ nps (b2 _ _ nps upd_same)
    have B5 : But st H H5 := (Same.but (same_upd np)).trans (b2.trans b5)
    refine ⟨r5, rfl, by omega, by omega, for_range (lo := 0) (n := r5.toNat) (fun i σ H' => ∃ y5 y6 rs, σ = [some (.ref st), some (.int m), some (.int g), some (.ref p), some (.str z), y5, y6] ∧ But st H H' ∧ SM H' st ∧ Runs H' p rs ∧ rs.length ≤ i ∧ (∀ r ∈ rs, RunOk r ∧ r.2 ≤ g ∧ r.1 ∈ abcL) ∧ Alt rs)
      ⟨none, none, [], rfl, B5, z5, ⟨[], hp5, .nil⟩, Nat.zero_le _, (fun r h => by cases h), (fun i x y h => by simp at h)⟩ (fun i σ H6 hi hP => ?_) (fun σ H6 hP => ?_)⟩
    · obtain ⟨y5, y6, rs, rfl, b6, z6, hR, lr, okr, alt⟩ := hP
      refine ⟨_, rfl, _, rfl, _, rfl, z, rfl, smallE (by have := lok.2.1; omega), st, _, rfl, z6, (by have := lok.1; omega), wide8 (by omega) (by have := lok.2.1; omega), fun H7 r7 b7 z7 r70 r71 => ?_⟩
      have lt : r7.toNat < z.cps.toList.length := by omega
      have ek : z.cps.toList[r7.toNat]? = some z.cps.toList[r7.toNat] := List.getElem?_eq_getElem lt
      have kl := lok.2.2 _ (List.getElem_mem lt)
      have kk : KindOk ⟨#[z.cps.toList[r7.toNat]]⟩ := one_kind ⟨kl.1, by omega⟩
      have kin := one_abc kl
      refine ⟨z, r7, _, rfl, rfl, smallE (by have := lok.2.1; omega), atI_ofX r70 ek, ?_⟩
      generalize (⟨#[z.cps.toList[r7.toNat]]⟩ : Str) = kd at kk kin
      have B7 := b6.trans b7
      have hR7 : Runs H7 p rs := hR.butM z6 b7
      have okR : ∀ r ∈ rs, KindOk r.1 := fun r h => (okr r h).1.1
      clear b7 hR b6 z6
      obtain ⟨xs, hx, hpr⟩ := hR7
      have lx : xs.length = rs.length := Paired.len hpr
      dsimp only
      refine if_by (fun b H9 => Same H7 H9 ∧ (b = true → ∀ y, rs[rs.length - 1]? = some y → y.1 ≠ kd)) (fun Q' k => ?_) (fun H9 hq => ?_) (fun H9 hq => ?_)
      · refine ⟨_, rfl, Nat.zero_le _, fun e ne => ?_⟩
        have se : Same H7 (upd H7 e (.lst [])) := same_upd ne
        refine ⟨.list (rs.map dRun), .list [], .lst (.of (se _ _ hx)) (dp_all (prs_same se hpr)), .lst (.of upd_same) .nil, shaped_runs okR, shaped_nil, _, rfl, ?_⟩
        rw [eqv_nil]
        cases hrs : rs with
        | nil => exact iteP rfl (k _ _ ⟨se, fun _ y hy => by rw [hrs] at hy; cases hy⟩)
        | cons r0 t0 =>
          refine iteN rfl ?_
          have hlt : rs.length - 1 < rs.length := by
            have : 0 < rs.length := by rw [hrs]; exact Nat.succ_pos _
            omega
          obtain ⟨x, ex, hxv⟩ := Paired.at' hpr (List.getElem?_eq_getElem hlt)
          obtain ⟨tt, rfl, htt⟩ := RunV.same se hxv
          have exl : atI xs (-1) = some (.ref tt) := by
            have h1 : xs ≠ [] := fun z => by rw [z] at lx; rw [hrs] at lx; cases lx
            have h2 : xs = xs.dropLast ++ [xs.getLast h1] := (List.dropLast_concat_getLast h1).symm
            have h3 : xs.getLast h1 = .ref tt := by
              have := List.getLast?_eq_getElem? (l := xs)
              rw [lx, ex, List.getLast?_eq_some_getLast h1] at this
              exact Option.some.inj this
            rw [h2, h3]
            exact atI_last _ _
          refine ⟨_, rfl, 1, rfl, p, xs, -1, _, rfl, rfl, .of (se _ _ hx), exl, tt, _, 0, _, rfl, rfl, .of htt, at0, _, rfl, rfl, _, rfl, ?_⟩
          refine k _ _ ⟨se, fun hb y hy => ?_⟩
          rw [List.getElem?_eq_getElem hlt] at hy
          cases hy
          intro z
          rw [z] at hb
          simp at hb
      · obtain ⟨s9, ha⟩ := hq
        refine ⟨_, rfl, .inl ⟨rfl, _, SqL.of (s9 _ _ hx)⟩, _, rfl, _, rfl, _, rfl, st, g, rfl, z7.same s9, g1, wide8 (by omega) (by omega), fun H10 r8 b10 z10 r80 r81 => ⟨_, _, rfl, rfl, (by show 2 ≤ sizeLine; decide), fun n nn => ?_⟩⟩
        have hx10 : H10 p = some (.lst xs) := b10 _ _ nps (s9 _ _ hx)
        have hpr10 : Paired (RunV H10) xs rs := by
          obtain ⟨x', e', p'⟩ := Runs.butM (z7.same s9) b10 ⟨xs, s9 _ _ hx, prs_same s9 hpr⟩
          rw [hx10] at e'
          cases e'
          exact p'
        have hxn := same_upd (o := .tup [.str kd, .int (1 + r8)]) nn _ _ hx10
        refine ⟨p, _, _, rfl, rfl, hxn, small (by omega), ?_⟩
        refine ⟨_, _, rs ++ [(kd, 1 + r8)], rfl, ?_, ?_, ⟨_, upd_same, Paired.app (prs_grow hxn (prs_same (same_upd nn) hpr10)) (.cons (RunV.grow hxn ⟨n, rfl, upd_same⟩) .nil)⟩, ?_, ?_, alt_snoc alt (ha rfl)⟩
        · intro b o nb eb
          rw [upd_ne (ne_of_none eb np)]
          exact same_upd nn _ _ (b10 _ _ nb (s9 _ _ (B7 b o nb eb)))
        · obtain ⟨d, s, hs, rest⟩ := z10.same (same_upd (o := .tup [.str kd, .int (1 + r8)]) nn)
          refine ⟨d, s, ?_, rest⟩
          rw [upd_ne nps.symm]
          exact hs
        · rw [List.length_append]
          show rs.length + 1 ≤ i + 1
          omega
        · intro r hr
          rcases List.mem_append.mp hr with h | h
          · exact okr r h
          · rw [List.mem_singleton.mp h]
            exact ⟨⟨kk, by show 1 ≤ 1 + r8; omega, by show 1 + r8 ≤ _; omega⟩, by show 1 + r8 ≤ g; omega, kin⟩
      · obtain ⟨s9, ha⟩ := hq
        exact ⟨_, _, rs, rfl, fun b o nb eb => s9 b o (B7 b o nb eb), z7.same s9, ⟨xs, s9 _ _ hx, prs_same s9 hpr⟩, by omega, okr, alt⟩
    · obtain ⟨y5, y6, rs, rfl, b6, z6, hR, lr, okr, alt⟩ := hP
      exact ⟨_, rfl, q H6 p rs b6 z6 hR ⟨by omega, fun r h => (okr r h).1, alt⟩ (by omega) fun r h => (okr r h).2⟩
/-! _law_state: slots 0:stream 1:scale -/
abbrev s_law_state : Stmt := topS 74
theorem sc_law_state : FnScope ["stream", "scale"] ["stream", "scale"] (defScope s_law_state) := ⟨rfl, rfl, rfl, by decide +kernel, rfl, by decide +kernel, by decide +kernel⟩
def sp_law_state : Sp := fun vs H Q _ => ∃ (st : Addr) (m : Int), vs = [.ref st, .int m] ∧ SM H st ∧ 1 ≤ m ∧ m.natAbs < 2 ^ 8000 ∧ ∀ H' v s, But st H H' → SM H' st → StV H' v s → StOk s → (∀ r, s = some r → r.2 ≤ m) → Q v H'
theorem ok_law_state (D : Df K mg "_law_state" s_law_state) (G_law_draw : Has P w K mg base 1 "_law_draw" ["stream", "many"] sp_law_draw) : Has P w K mg base 2 "_law_state" ["stream", "scale"] sp_law_state := by
  refine has_of D sc_law_state (fun _ _ _ _ _ _ us hl => match us, hl with | [_, _], _ => rfl) (fun vs H Q E h => ?_) (fun f cdv A outer s₀ H vs Q E hr h => ?_)
  · obtain ⟨a, rs, rfl, _⟩ := h
    rfl
  · obtain ⟨st, m, rfl, z0, m1, m2, q⟩ := h
    refine ⟨_, (pss_cons (ps_if (pt_cmpR op_eq (pe_callH G_law_draw (hr.mono (by omega)) (by rfl) (pa_cons (pv 0) (pa_cons pe_int pa_nil))) pe_int (nomark _)) (pss_one (ps_ret pe_non)) pss_nil)
    (pss_one (ps_ret (pe_tup (pa_cons (pe_ix ix_str pe_str (pe_callH G_law_draw (hr.mono (by omega)) (by rfl) (pa_cons (pv 0) (pa_cons pe_int pa_nil))) (fun _ _ => rfl)) (pa_cons (pe_op op_add pe_int (pe_callH G_law_draw (hr.mono (by omega)) (by rfl) (pa_cons (pv 0) (pa_cons (pv 1) pa_nil)))) pa_nil)))))), ?_⟩
    refine ⟨_, rfl, st, 4, rfl, z0, by decide, by decide, fun H1 r b1 z1 r0 r1 => ⟨rfl, _, rfl, ?_⟩⟩
    by_cases e : r = 0
    · subst e
      exact iteP (decide_eq_true rfl) (q H1 _ none b1 z1 rfl (fun r h => by cases h) (fun r h => by cases h))
    · refine iteN (decide_eq_false fun z => e (V.int.inj z)) ?_
      have l6 := let6
      generalize ("abcdeq" : Str) = z6 at l6 ⊢
      have lz : z6.cps.toList.length = z6.length := Array.length_toList
      refine ⟨_, rfl, st, 6, rfl, z1, by decide, by decide, fun H2 r2 b2 z2 r20 r21 => ?_⟩
      have lt : r2.toNat < z6.cps.toList.length := by
        have := l6.1
        omega
      have ek : z6.cps.toList[r2.toNat]? = some z6.cps.toList[r2.toNat] := List.getElem?_eq_getElem lt
      have kk : KindOk ⟨#[z6.cps.toList[r2.toNat]]⟩ := one_kind (l6.2 _ (List.getElem_mem lt))
      refine ⟨z6, r2, _, rfl, rfl, smallE (by have := l6.1; omega), atI_ofX r20 ek, ?_⟩
      generalize (⟨#[z6.cps.toList[r2.toNat]]⟩ : Str) = kd at kk
      refine ⟨_, rfl, _, rfl, st, m, rfl, z2, m1, m2, fun H3 r3 b3 z3 r30 r31 => ⟨_, _, rfl, rfl, (by show 2 ≤ sizeLine; decide), fun t nt => ?_⟩⟩
      refine q _ _ (some (kd, 1 + r3)) ((b1.trans (b2.trans b3)).trans (Same.but (same_upd nt))) (z3.same (same_upd nt)) ⟨t, rfl, upd_same⟩ (fun r h => ?_) (fun r h => ?_)
      · cases h
        exact ⟨kk, by show 1 ≤ 1 + r3; omega⟩
      · cases h
        show 1 + r3 ≤ m
        omega
end
end UP

set_option Elab.async false
set_option linter.all false
set_option maxRecDepth 100000
set_option maxHeartbeats 4000000
set_option pp.maxSteps 600
namespace UP
open PySem PySem.Spec PyProof.Rows L2
/-! ### where states come again and where growth begins, in numbers -/
theorem ret_bound {rs : List Run} {st : Option Run} {a p : Nat} (pos : ∀ r ∈ rs, 1 ≤ r.2) (l4 : lenR rs ≤ 400) (hg : grR rs = none) (ps : PosO st) (bd : ∀ r, st = some r → r.2 ≤ 100000000000000000000) (h : IsRet rs st a p) : a + p ≤ 100000000000000500000 := by
  have f0 := frR_nonneg (rs := rs) (st := st)
  have ef : fnR rs st (frR rs st) = itS rs st (frR rs st).toNat := by
    rw [fall_it pos ps _ (by omega), show (((frR rs st).toNat : Nat) : Int) = frR rs st by omega]
  have fb : frR rs st ≤ 100000000000000000001 := by
    cases st with
    | none =>
      show (0 : Int) ≤ _
      decide
    | some r =>
      have := fr_leV (r := r) pos (ps r rfl)
      have := bd r rfl
      omega
  have low := fallen_low pos ps
  obtain ⟨k, hk, ce⟩ := course_stay (N := 1000000000000000000000000000000) pos l4 hg (s := fnR rs st (frR rs st)) (by rw [ef]; exact itS_pos pos ps _) low
  rcases ce.stop with c | c | ⟨j, jk, e⟩
  · omega
  · cases c
  · obtain ⟨x, y, ex, ey, hr⟩ := ret_is pos ps ⟨k, j, ce, jk, e, rfl, rfl⟩
    obtain ⟨e1, e2⟩ := isRet_one h hr
    omega
theorem sg_some {k : Str} {s : Option Run} {m : Int} (h : sgR k s = m) (m1 : 1 ≤ m) (ps : PosO s) : s = some (k, m) := by
  cases s with
  | none =>
    have h : (0 : Int) = m := h
    omega
  | some r =>
    have r1 := ps r rfl
    have h : (if r.1 = k then r.2 else -r.2) = m := h
    by_cases e : r.1 = k
    · rw [if_pos e] at h
      rw [← e, ← h]
    · rw [if_neg e] at h
      omega
theorem beg_bound {rs : List Run} {g : Run} {st : Option Run} {b : Nat} (pos : ∀ r ∈ rs, 1 ≤ r.2) (l4 : lenR rs ≤ 400) (hg : grR rs = some g) (ps : PosO st) (bd : ∀ r, st = some r → r.2 ≤ 100000000000000000000) (h : IsBeg rs g st b) : b ≤ 100000000000000000500 := by
  refine Classical.byContradiction fun c => ?_
  obtain ⟨gf, g1⟩ := gr_fall hg
  have sg := sg_it (k := g.1) pos ps (by omega) 100000000000000000500
  have m1 : (100000000000000000500 : Int) * 1 ≤ (100000000000000000500 : Int) * (-fallR rs g.1) := Int.mul_le_mul_of_nonneg_left (by omega) (by decide)
  have s0 : -100000000000000000000 ≤ sgR g.1 st := by
    cases st with
    | none =>
      show _ ≤ (0 : Int)
      decide
    | some r =>
      have r1 := ps r rfl
      have r2 := bd r rfl
      show _ ≤ (if r.1 = g.1 then r.2 else -r.2)
      split <;> omega
  have sg : sgR g.1 st + (100000000000000000500 : Int) * (-fallR rs g.1) ≤ sgR g.1 (itS rs st 100000000000000000500) := sg
  have e := sg_some rfl (show 1 ≤ sgR g.1 (itS rs st 100000000000000000500) by omega) (itS_pos pos ps _)
  have t := grow_ag (m := sgR g.1 (itS rs st 100000000000000000500)) pos hg e (by omega) (by omega) (b - 1) (by omega)
  have f := h.2 (b - 1) (by omega)
  rw [t] at f
  cases f
theorem StV.butM {st : Addr} {H H' : Hp} {v : V} {s : Option Run} (z : SM H st) (b : But st H H') (h : StV H v s) : StV H' v s := by
  cases s with
  | none => exact h
  | some r =>
    obtain ⟨t, rfl, ht⟩ := h
    obtain ⟨_, _, hs, _⟩ := z
    exact ⟨t, rfl, b _ _ (ne_of ht hs (by intro q; cases q)) ht⟩
theorem let_few {ks : List Str} (h : ∀ k ∈ ks, k ∈ abcL) : (setS ks).length ≤ 20 := by
  have := nodup_sub (setS ks) abcL (setS_nodup ks) fun x hx => h x (setS_mem.mp hx)
  have e : abcL.length = 5 := rfl
  omega
section
variable {P : Program} {w : World} {K : PySem.W.Frag} {mg : Str → Option Value} {base : Heap}
/-! _law_same: slots 0:sequence 1:state 2:one 3:other -/
abbrev s_law_same : Stmt := topS 79
theorem sc_law_same : FnScope ["sequence", "state", "one", "other"] ["sequence", "state", "one", "other"] (defScope s_law_same) := ⟨rfl, rfl, rfl, by decide +kernel, rfl, by decide +kernel, by decide +kernel⟩
def sp_law_same : Sp := fun vs H Q _ => ∃ (p : Addr) (u : V) (rs : List Run) (st : Option Run) (a b : Nat), vs = [.ref p, u, .int a, .int b] ∧ Runs H p rs ∧ SeqOk rs ∧ lenR rs ≤ 400 ∧ StV H u st ∧ StOk st ∧ a ≤ 1000000000000000000000000000000 ∧ b ≤ 1000000000000000000000000000000 ∧ ∀ H', Same H H' → Q (.bl (decide (itS rs st a = itS rs st b))) H'
theorem ok_law_same (D : Df K mg "_law_same" s_law_same) (G_after_rounds : HasD P w K mg base 8 "after_rounds" ["sequence", "rounds", "state"] 2 "state" sp_after_rounds) : Has P w K mg base 9 "_law_same" ["sequence", "state", "one", "other"] sp_law_same := by
  refine has_of D sc_law_same (fun _ _ _ _ _ _ us hl => match us, hl with | [_, _, _, _], _ => rfl) (fun vs H Q E h => ?_) (fun f cdv A₀ outer s₀ H vs Q E hr h => ?_)
  · obtain ⟨_, _, _, _, _, _, rfl, _⟩ := h
    rfl
  · obtain ⟨p, u, rs, st, a, b, rfl, hR, ok, l4, hu, so, ha, hb, q⟩ := h
    have okI : ∀ n, StOk (itS rs st n) := itS_ok (fun r hr => ⟨(ok.2.1 r hr).1, (ok.2.1 r hr).2.1⟩) so
    refine ⟨_, (pss_one (ps_ret (pe_cmpR (op_eqD hr.units) (pe_callH G_after_rounds.has (hr.mono (by omega)) (by rfl) (pa_cons (pv 0) (pa_cons (pv 2) (pa_cons (pv 1) pa_nil)))) (pe_callH G_after_rounds.has (hr.mono (by omega)) (by rfl) (pa_cons (pv 0) (pa_cons (pv 3) (pa_cons (pv 1) pa_nil)))) (nomark _)))), ?_⟩
    refine ⟨_, rfl, _, rfl, _, rfl, .ref p, u, rs, st, a, rfl, hR.dress, ok, l4, by omega, by omega, hu.dress, so, fun H1 v1 s1 h1 => ?_⟩
    refine ⟨_, rfl, _, rfl, _, rfl, .ref p, u, rs, st, b, rfl, (hR.same s1).dress, ok, l4, by omega, by omega, (hu.same s1).dress, so, fun H2 v2 s2 h2 => ?_⟩
    rw [Int.toNat_natCast] at h1 h2
    refine ⟨_, _, dp_o (h1.same s2), dp_o h2, shaped_o (okI _), shaped_o (okI _), ?_⟩
    rw [eqv_o]
    exact q _ (s1.trans s2)
/-! _law_difference_holds: slots 0:one 1:other 2:same 3:state -/
abbrev s_law_difference_holds : Stmt := topS 78
theorem sc_law_difference_holds : FnScope ["one", "other", "same", "state"] ["one", "other"] (defScope s_law_difference_holds) := ⟨rfl, rfl, rfl, by decide +kernel, rfl, by decide +kernel, by decide +kernel⟩
def sp_law_difference_holds : Sp := fun vs H Q _ => ∃ (a b : Addr) (rs cs : List Run), vs = [.ref a, .ref b] ∧ Runs H a rs ∧ SeqOk rs ∧ lenR rs ≤ 400 ∧ Runs H b cs ∧ SeqOk cs ∧ lenR cs ≤ 400 ∧ (setS (itR rs ++ itR cs)).length ≤ 20 ∧ ∀ H', Same H H' → Q (.bl true) H'
theorem ok_law_difference_holds {CE : Addr} (D : Df K mg "_law_difference_holds" s_law_difference_holds) (X1 : Ex K mg "SameEffect" CE) (GX_state_that_differs : HasX P w K mg base 8 "state_that_differs" ["first", "second"] (sp_state_that_differs CE))
    (G_have_same_effect : Has P w K mg base 8 "have_same_effect" ["first", "second"] sp_have_same_effect) (G_state_after : HasD P w K mg base 6 "state_after" ["sequence", "state"] 1 "state" sp_state_after) : Has P w K mg base 9 "_law_difference_holds" ["one", "other"] sp_law_difference_holds := by
  refine has_of D sc_law_difference_holds (fun _ _ _ _ _ _ us hl => match us, hl with | [_, _], _ => rfl) (fun vs H Q E h => ?_) (fun f cdv A₀ outer s₀ H vs Q E hr h => ?_)
  · obtain ⟨_, _, _, _, rfl, _⟩ := h
    rfl
  · obtain ⟨a, b, rs, cs, rfl, hR, oku, lu, hC, okv, lv, s20, q⟩ := h
    have posu : ∀ r ∈ rs, 1 ≤ r.2 := fun r hr => (oku.2.1 r hr).2.1
    have posv : ∀ r ∈ cs, 1 ≤ r.2 := fun r hr => (okv.2.1 r hr).2.1
    refine ⟨_, (pss_cons (ps_set (i := 2) sc_law_difference_holds.nd rfl (by first | exact Or.inl rfl | exact Or.inr rfl) (pe_callH G_have_same_effect (hr.mono (by omega)) (by rfl) (pa_cons (pv 0) (pa_cons (pv 1) pa_nil))))
    (pss_cons (ps_try_only (Wout := fun _ _ _ _ => False) (ts := fun _ _ _ => tRet (tOp rIsB (tVar 2) (tC (.bl true)))) (tb := fun W => tAsg (tCallS (sp_state_that_differs CE) (WE W) (tCons (tVar 0) (tCons (tVar 1) tNil))) (gName 3)) rfl rfl ⟨rfl, by decide, .inl X1.g⟩ takes_no (fun W pn xe tk _ => pss_one (ps_set (i := 3) sc_law_difference_holds.nd rfl (by first | exact Or.inl rfl | exact Or.inr rfl) (pe_callXH GX_state_that_differs tk (hr.mono (by omega)) (by rfl) (pa_cons (pv 0) (pa_cons (pv 1) pa_nil))))) (fun a oe cls d pn _ _ => pss_one (ps_ret (pe_cmpR op_isBl (pv 2) pe_bl (nomark _)))))
    (pss_one (ps_ret (pe_and (pe_cmpR op_isBl (pv 2) pe_bl (nomark _)) (pe_one (pe_cmpR (op_neD hr.units) (pe_callH G_state_after.has (hr.mono (by omega)) (by rfl) (pa_cons (pv 0) (pa_cons (pv 3) pa_nil))) (pe_callH G_state_after.has (hr.mono (by omega)) (by rfl) (pa_cons (pv 1) (pa_cons (pv 3) pa_nil))) (nomark _)))))))), ?_⟩
    refine ⟨_, rfl, _, rfl, .ref a, .ref b, rs, cs, rfl, hR.dress, oku, lu, hC.dress, okv, lv, s20, fun H1 r s1 hr1 => ?_⟩
    refine ⟨_, rfl, _, rfl, .ref a, .ref b, rs, cs, rfl, (hR.same s1).dress, oku, lu, (hC.same s1).dress, okv, lv, s20, fun H2 x k n s2 hx kk hn ne => ?_, fun H2 s2 al => ?_⟩
    · have rf : r = false := by
        cases r with
        | false => rfl
        | true => exact absurd (hr1.mp rfl k n hn) ne
      subst rf
      have s12 := s1.trans s2
      have po : PosO (withR k (n : Int)) := pos_with (by omega)
      have so := ok_with (k := k) kk (show (0 : Int) ≤ (n : Int) by omega)
      refine ⟨_, rfl, _, _, rfl, rfl, _, rfl, iteP rfl ?_⟩
      refine ⟨_, rfl, _, rfl, .ref a, rs, x, _, rfl, (hR.same s12).dress, oku, hx.dress, so, fun H3 v3 s3 h3 => ?_⟩
      refine ⟨_, rfl, _, rfl, .ref b, cs, x, _, rfl, (hC.same (s12.trans s3)).dress, okv, (hx.same s3).dress, so, fun H4 v4 s4 h4 => ?_⟩
      have okE : ∀ ds : List Run, SeqOk ds → StOk (stR ds (withR k (n : Int))) := fun ds h => by
        rw [st_items ds _ po fun r hr => (h.2.1 r hr).2.1]
        exact stOk_stI _ _ (it_kinds fun r hr => (h.2.1 r hr).1) so
      refine ⟨_, _, dp_o (h3.same s4), dp_o h4, shaped_o (okE rs oku), shaped_o (okE cs okv), ?_⟩
      rw [eqv_o, decide_eq_false (fun z => ne (by unfold EqK fxR; rw [← st_items rs _ po posu, ← st_items cs _ po posv]; exact z))]
      exact q _ (s12.trans (s3.trans s4))
    · have rt : r = true := hr1.mpr al
      subst rt
      refine ⟨true, X1.em, fun _ _ _ => ?_, fun z => by cases z⟩
      exact ⟨_, rfl, _, _, rfl, rfl, q _ (s1.trans s2)⟩
end
end UP

set_option Elab.async false
set_option linter.all false
set_option maxRecDepth 100000
set_option maxHeartbeats 4000000
set_option pp.maxSteps 600
namespace UP
open PySem PySem.Spec PyProof.Rows L2
/-! ### the effect on a state, from a right list -/
def sp_eff : Sp := fun vs H Q _ => ∃ (v u : V) (k : Str) (items : List Str) (es : List (Option Run)) (n : Int), vs = [v, .str k, u] ∧ StLG H v es ∧ EffOk items k es ∧ items.length ≤ 400 ∧ (∀ x ∈ items, KindOk x) ∧ KindOk k ∧ StG H u (withR k n) ∧ 0 ≤ n ∧ ∀ H' v', Same H H' → StV H' v' (fxR items k n) → Q v' H'
theorem eff_imp {vs : List V} {H : Hp} {Q : VK} {E : XK} (h : sp_eff vs H Q E) : sp_effect_on vs H Q E := by
  obtain ⟨v, u, k, items, es, n, rfl, hv, ef, il, iok, kk, hu, n0, q⟩ := h
  obtain ⟨⟨l1, l2⟩, val, sh, far⟩ := ef
  obtain ⟨f1, f2⟩ := far ((es.length : Int) - 1) (Int.le_refl _)
  have eok : ∀ m : Nat, StOk (fxR items k m) := fun m => stOk_stI items _ iok (ok_with kk (by omega))
  have last : es.getLast? = some (withR k ((es.length : Int) - 1 + sh)) := by
    rw [List.getLast?_eq_getElem?, val (es.length - 1) (by omega), ← f2]
    rw [show ((es.length - 1 : Nat) : Int) = (es.length : Int) - 1 by omega]
  refine ⟨v, u, k, es, (es.length : Int) - 1 + sh, n, rfl, hv, ⟨by omega, fun e he => ?_, last, f1⟩, kk, hu, n0, fun e lt he H' v' s hv' => ?_, fun le H' v' s hv' => ?_⟩
  · obtain ⟨i, hi, ei⟩ := List.mem_iff_getElem.mp he
    have := val i hi
    rw [List.getElem?_eq_getElem hi, ei] at this
    rw [Option.some.inj this]
    exact eok i
  · have := val n.toNat (by omega)
    rw [he] at this
    rw [Option.some.inj this, show ((n.toNat : Nat) : Int) = n by omega] at hv'
    exact q _ _ s hv'
  · rw [show (es.length : Int) - 1 + sh + n - ((es.length : Int) - 1) = n + sh by omega, ← (far n (by omega)).2] at hv'
    exact q _ _ s hv'
theorem Has.eff {P : Program} {w : World} {K : PySem.W.Frag} {mg : Str → Option Value} {base : Heap} (G : Has P w K mg base 5 "effect_on" ["effects", "kind", "state"] sp_effect_on) : Has P w K mg base 5 "effect_on" ["effects", "kind", "state"] sp_eff := by
  obtain ⟨f, fd, g, kp, b, F⟩ := G
  exact ⟨f, fd, g, kp, b, F.imp fun vs H Q E h => eff_imp h⟩
theorem eqv_stsN : ∀ es : List (Option Run), PyData.eqvAll (es.map dOt) (es.map dOt) = true
  | [] => by
    rw [List.map_nil, PyData.eqvAll]
  | e :: t => by
    rw [List.map_cons, PyData.eqvAll, eqv_stsN t, eqv_o, decide_eq_true rfl]
    rfl
/-! ### trying one number after another gives the states ahead -/
theorem rng_one {p : Nat → Bool} {a : Nat} (h : ∀ j, p j = decide (j = a)) : ∀ M, (List.range M).filter p = if a < M then [a] else []
  | 0 => by
    rw [if_neg (Nat.not_lt_zero _)]
    rfl
  | M + 1 => by
    rw [List.range_succ, List.filter_append, rng_one h M]
    by_cases c : a < M
    · rw [if_pos c, if_pos (by omega)]
      have : p M = false := by rw [h]; exact decide_eq_false (by omega)
      simp [this]
    · rw [if_neg c]
      by_cases e : M = a
      · have : p M = true := by rw [h]; exact decide_eq_true e
        rw [if_pos (by omega)]
        subst e
        simp [this]
      · have : p M = false := by rw [h]; exact decide_eq_false e
        rw [if_neg (by omega)]
        simp [this]
theorem rng_no {p : Nat → Bool} (h : ∀ j, p j = false) (M : Nat) : (List.range M).filter p = [] := by
  rw [List.filter_eq_nil_iff]
  intro j _ z
  rw [h j] at z
  cases z
/-- the states of a kind with less than N items whose effect is the goal -/
def tryR (items : List Str) (goal : Option Run) (k : Str) (N : Nat) : List (Option Run) := ((List.range N).filter fun j : Nat => decide (stI items (withR k (j : Int)) = goal)).map fun j : Nat => withR k (j : Int)
theorem try_succ (items : List Str) (goal : Option Run) (k : Str) (N : Nat) : tryR items goal k (N + 1) = tryR items goal k N ++ (if stI items (withR k (N : Int)) = goal then [withR k (N : Int)] else []) := by
  unfold tryR
  rw [List.range_succ, List.filter_append, List.map_append]
  congr 1
  by_cases c : stI items (withR k (N : Int)) = goal
  · rw [if_pos c]
    simp [c]
  · rw [if_neg c]
    simp [c]
theorem try_len (items : List Str) (goal : Option Run) (k : Str) (N : Nat) : (tryR items goal k N).length ≤ N := by
  unfold tryR
  rw [List.length_map]
  have := List.length_filter_le (fun j : Nat => decide (stI items (withR k (j : Int)) = goal)) (List.range N)
  rw [List.length_range] at this
  exact this
theorem try_ok {items : List Str} {goal : Option Run} {k : Str} (kk : KindOk k) {N : Nat} : ∀ e ∈ tryR items goal k N, StOk e := fun e he => by
  obtain ⟨j, _, rfl⟩ := List.mem_map.mp he
  exact ok_with kk (by omega)
theorem try_all {items : List Str} {k : Str} {n : Nat} {goal : Option Run} (hg : goal = stI items (withR k (n : Int))) : tryR items goal k (1 + items.length + (n + items.length + 1)) = sbR items goal [k] := by
  have lo := chR_ge k items
  unfold tryR sbR
  rw [List.flatMap_cons, List.flatMap_nil, List.append_nil, List.range_add, List.range_add, List.filter_append, List.filter_append, List.map_append, List.map_append, List.append_assoc]
  congr 1
  · have e0 : List.range 1 = [0] := rfl
    rw [e0]
    unfold sb0
    have w0 : withR k ((0 : Nat) : Int) = none := with0 k
    by_cases c : stI items none = goal
    · rw [if_pos c]
      have d : decide (stI items (withR k ((0 : Nat) : Int)) = goal) = true := by rw [w0]; exact decide_eq_true c
      rw [List.filter_cons, d, if_pos rfl]
      show [withR k ((0 : Nat) : Int)] = [none]
      rw [w0]
    · rw [if_neg c]
      have d : decide (stI items (withR k ((0 : Nat) : Int)) = goal) = false := by rw [w0]; exact decide_eq_false c
      rw [List.filter_cons, d, if_neg (by decide)]
      rfl
  unfold sbK
  congr 1
  · rw [List.filter_map, List.map_map]
    unfold sbN
    have ew : ∀ j : Nat, withR k ((1 + j : Nat) : Int) = some (k, 1 + (j : Int)) := fun j => by
      rw [with_pos (by omega), Int.natCast_add]
      rfl
    have ef : (List.range items.length).filter ((fun j : Nat => decide (stI items (withR k (j : Int)) = goal)) ∘ fun x => 1 + x) = (List.range items.length).filter fun j : Nat => decide (stI items (some (k, 1 + (j : Int))) = goal) := by
      refine List.filter_congr fun j _ => ?_
      show decide (stI items (withR k ((1 + j : Nat) : Int)) = goal) = _
      rw [ew]
    rw [ef]
    exact List.map_congr_left fun j _ => ew j
  · rw [List.filter_map, List.map_map]
    have far : ∀ j : Nat, stI items (withR k ((1 + items.length + j : Nat) : Int)) = some (k, ((1 + items.length + j : Nat) : Int) + chR items k) := fun j => by
      rw [fx_far k _ _ (by omega), with_pos (by omega)]
    cases goal with
    | none =>
      rw [rng_no (p := (fun j : Nat => decide (stI items (withR k (j : Int)) = none)) ∘ fun x => 1 + items.length + x) (fun j => decide_eq_false fun z => by rw [far j] at z; cases z)]
      rfl
    | some r =>
      unfold sbE
      dsimp only
      by_cases c : r.1 = k ∧ (items.length : Int) < r.2 - chR items k
      · rw [if_pos c]
        obtain ⟨c1, c2⟩ := c
        have er : r = (k, r.2) := by rw [← c1]
        have top := top_stI (k := k) (m := r.2) items (withR k (n : Int)) (pos_with (by omega)) (by rw [← hg, ← er])
        have cl : (items.count k : Nat) ≤ items.length := List.count_le_length
        have bd : r.2 - chR items k ≤ (n : Int) + 2 * items.length := by
          rcases top with t | ⟨n', e, t⟩
          · omega
          · unfold withR at e
            split at e
            · cases e
            · cases e
              omega
        rw [rng_one (p := (fun j : Nat => decide (stI items (withR k (j : Int)) = some r)) ∘ fun x => 1 + items.length + x) (a := (r.2 - chR items k).toNat - 1 - items.length) (fun j => ?_), if_pos (by omega)]
        · show [withR k ((1 + items.length + ((r.2 - chR items k).toNat - 1 - items.length) : Nat) : Int)] = _
          rw [with_pos (by omega)]
          congr 3
          omega
        · show decide (stI items (withR k ((1 + items.length + j : Nat) : Int)) = some r) = _
          rw [far j]
          by_cases e : j = (r.2 - chR items k).toNat - 1 - items.length
          · rw [decide_eq_true e, decide_eq_true]
            rw [er]
            congr 2
            omega
          · rw [decide_eq_false e, decide_eq_false]
            intro z
            have := congrArg Prod.snd (Option.some.inj z)
            have : ((1 + items.length + j : Nat) : Int) + chR items k = r.2 := this
            omega
      · rw [if_neg c, rng_no (p := (fun j : Nat => decide (stI items (withR k (j : Int)) = some r)) ∘ fun x => 1 + items.length + x) (fun j => decide_eq_false fun z => ?_)]
        · rfl
        · rw [far j] at z
          have z := Option.some.inj z
          refine c ⟨by rw [← z], ?_⟩
          rw [← z]
          show (items.length : Int) < ((1 + items.length + j : Nat) : Int) + chR items k - chR items k
          omega
end UP

set_option Elab.async false
set_option linter.all false
set_option maxRecDepth 100000
set_option maxHeartbeats 4000000
set_option pp.maxSteps 600
namespace UP
open PySem PySem.Spec PyProof.Rows L2
section
variable {P : Program} {w : World} {K : PySem.W.Frag} {mg : Str → Option Value} {base : Heap}
/-! _law_rounds_hold: slots 0:stream 1:sequence 2:state 3:some 4:more 5:middle 6:again 7:start 8:period -/
abbrev s_law_rounds_hold : Stmt := topS 80
theorem sc_law_rounds_hold : FnScope ["stream", "sequence", "state", "some", "more", "middle", "again", "start", "period"] ["stream", "sequence", "state"] (defScope s_law_rounds_hold) := ⟨rfl, rfl, rfl, by decide +kernel, rfl, by decide +kernel, by decide +kernel⟩
def sp_law_rounds_hold : Sp := fun vs H Q _ => ∃ (s0 p : Addr) (u : V) (rs : List Run) (st : Option Run), vs = [.ref s0, .ref p, u] ∧ SM H s0 ∧ Runs H p rs ∧ SeqOk rs ∧ lenR rs ≤ 400 ∧ StV H u st ∧ StOk st ∧ (∀ r, st = some r → r.2 ≤ 100000000000000000000) ∧ ∀ H', But s0 H H' → SM H' s0 → Q (.bl true) H'
theorem ok_law_rounds_hold (D : Df K mg "_law_rounds_hold" s_law_rounds_hold) (G_law_draw : Has P w K mg base 1 "_law_draw" ["stream", "many"] sp_law_draw) (G_after_rounds : HasD P w K mg base 8 "after_rounds" ["sequence", "rounds", "state"] 2 "state" sp_after_rounds)
    (G_state_after : HasD P w K mg base 6 "state_after" ["sequence", "state"] 1 "state" sp_state_after) (G_return_of : HasD P w K mg base 8 "return_of" ["sequence", "state"] 1 "state" sp_return_of) (G_growth_of : Has P w K mg base 8 "growth_of" ["sequence"] sp_growth_of)
    (G_law_same : Has P w K mg base 9 "_law_same" ["sequence", "state", "one", "other"] sp_law_same) : Has P w K mg base 10 "_law_rounds_hold" ["stream", "sequence", "state"] sp_law_rounds_hold := by
  refine has_of D sc_law_rounds_hold (fun _ _ _ _ _ _ us hl => match us, hl with | [_, _, _], _ => rfl) (fun vs H Q E h => ?_) (fun f cdv A₀ outer s₀ H vs Q E hr h => ?_)
  · obtain ⟨_, _, _, _, _, rfl, _⟩ := h
    rfl
  · obtain ⟨s0, p, u, rs, st, rfl, z0, hR, ok, l4, hu, so, bd, q⟩ := h
    have pos : ∀ r ∈ rs, 1 ≤ r.2 := fun r hr => (ok.2.1 r hr).2.1
    have ps : PosO st := fun r e => (so r e).2
    have okI : ∀ n, StOk (itS rs st n) := itS_ok (fun r hr => ⟨(ok.2.1 r hr).1, (ok.2.1 r hr).2.1⟩) so
    refine ⟨_, (C8.pss_cut (ps_set (i := 3) sc_law_rounds_hold.nd rfl (by first | exact Or.inl rfl | exact Or.inr rfl) (pe_callH G_law_draw (hr.mono (by omega)) (by rfl) (pa_cons (pv 0) (pa_cons (pe_ix ix_list (pe_lst (pa_cons pe_int (pa_cons (pe_op op_pow pe_int pe_int) pa_nil))) (pe_callH G_law_draw (hr.mono (by omega)) (by rfl) (pa_cons (pv 0) (pa_cons pe_int pa_nil))) (fun _ _ => rfl)) pa_nil))))
    (C8.pss_cut (ps_set (i := 4) sc_law_rounds_hold.nd rfl (by first | exact Or.inl rfl | exact Or.inr rfl) (pe_callH G_law_draw (hr.mono (by omega)) (by rfl) (pa_cons (pv 0) (pa_cons (pe_ix ix_list (pe_lst (pa_cons pe_int (pa_cons (pe_op op_pow pe_int pe_int) pa_nil))) (pe_callH G_law_draw (hr.mono (by omega)) (by rfl) (pa_cons (pv 0) (pa_cons pe_int pa_nil))) (fun _ _ => rfl)) pa_nil))))
    (pss_cons (ps_set (i := 5) sc_law_rounds_hold.nd rfl (by first | exact Or.inl rfl | exact Or.inr rfl) (pe_callH G_after_rounds.has (hr.mono (by omega)) (by rfl) (pa_cons (pv 1) (pa_cons (pv 3) (pa_cons (pv 2) pa_nil)))))
    (pss_cons (ps_if (pt_cmpR (op_neD hr.units) (pe_callH G_after_rounds.has (hr.mono (by omega)) (by rfl) (pa_cons (pv 1) (pa_cons (pv 4) (pa_cons (pv 5) pa_nil)))) (pe_callH G_after_rounds.has (hr.mono (by omega)) (by rfl) (pa_cons (pv 1) (pa_cons (pe_op op_add (pv 3) (pv 4)) (pa_cons (pv 2) pa_nil)))) (nomark _)) (pss_one (ps_ret pe_bl)) pss_nil)
    (pss_cons (ps_if (pt_cmpR (op_neD hr.units) (pe_callH G_after_rounds.has (hr.mono (by omega)) (by rfl) (pa_cons (pv 1) (pa_cons pe_int (pa_cons (pv 2) pa_nil)))) (pe_callH G_state_after.has (hr.mono (by omega)) (by rfl) (pa_cons (pv 1) (pa_cons (pv 2) pa_nil))) (nomark _)) (pss_one (ps_ret pe_bl)) pss_nil)
    (pss_cons (ps_set (i := 6) sc_law_rounds_hold.nd rfl (by first | exact Or.inl rfl | exact Or.inr rfl) (pe_callH G_return_of.has (hr.mono (by omega)) (by rfl) (pa_cons (pv 1) (pa_cons (pv 2) pa_nil))))
    (pss_cons (ps_if (pt_cmpR op_isN (pv 6) pe_non (nomark _)) (pss_one (ps_ret (pe_cmpR op_notN (pe_callH G_growth_of (hr.mono (by omega)) (by rfl) (pa_cons (pv 1) pa_nil)) pe_non (nomark _)))) pss_nil)
    (pss_cons (ps_asg (pv 6) (pg_tup rfl (pgs_cons (pg_name (i := 7) sc_law_rounds_hold.nd rfl (by first | exact Or.inl rfl | exact Or.inr rfl)) (pgs_cons (pg_name (i := 8) sc_law_rounds_hold.nd rfl (by first | exact Or.inl rfl | exact Or.inr rfl)) pgs_nil))))
    (pss_cons (ps_if (PW.pt (pw_or (pt_cmpR op_lt (pv 8) pe_int (nomark _)) (pw_or1 (pt_not (pt_val (pe_callH G_law_same (hr.mono (by omega)) (by rfl) (pa_cons (pv 1) (pa_cons (pv 2) (pa_cons (pv 7) (pa_cons (pe_op op_add (pv 7) (pv 8)) pa_nil)))))))))) (pss_one (ps_ret pe_bl)) pss_nil)
    (pss_cons (ps_if (PW.pt (pw_and (pt_cmpR op_gt (pv 7) pe_int (nomark _)) (pw_and1 (pt_val (pe_callH G_law_same (hr.mono (by omega)) (by rfl) (pa_cons (pv 1) (pa_cons (pv 2) (pa_cons (pe_op op_sub (pv 7) pe_int) (pa_cons (pe_op op_add (pe_op op_sub (pv 7) pe_int) (pv 8)) pa_nil))))))))) (pss_one (ps_ret pe_bl)) pss_nil)
    (pss_one (ps_ret (pe_or (pe_cmpR op_eq (pv 8) pe_int (nomark _)) (pe_one (pe_not (pe_callH G_law_same (hr.mono (by omega)) (by rfl) (pa_cons (pv 1) (pa_cons (pv 2) (pa_cons (pv 7) (pa_cons (pe_op op_add (pv 7) pe_int) pa_nil)))))))))))))))))))), ?_⟩
    refine ⟨fun σ' H' => ∃ a : Nat, σ' = [some (.ref s0), some (.ref p), some u, some (.int a), none, none, none, none, none] ∧ a ≤ 100000000000000000000000000000 ∧ But s0 H H' ∧ SM H' s0, ?_, fun σ' H1 hM => ?_⟩
    · refine ⟨_, rfl, _, _, rfl, rfl, ⟨by decide, by decide, by decide⟩, (by show 2 ≤ sizeLine; decide), fun l nl => ?_⟩
      refine ⟨_, rfl, s0, 2, rfl, z0.same (same_upd nl), by decide, by decide, fun H5 r5 b5 z5 r50 r51 => ?_⟩
      have hl := b5 _ _ (SM.ne z0 nl) upd_same
      have bb : But s0 _ H5 := (Same.but (same_upd nl)).trans b5
      rcases (show r5 = 0 ∨ r5 = 1 by omega) with e | e
      · subst e
        refine ⟨l, _, 0, _, rfl, rfl, .of hl, rfl, s0, 5, rfl, z5, by decide, by decide, fun H6 r6 b6 z6 r60 r61 => ?_⟩
        exact ⟨r6.toNat, by rw [show ((r6.toNat : Nat) : Int) = r6 by omega]; rfl, by omega, (Same.but (Same.refl _)).trans (bb.trans b6), z6⟩
      · subst e
        refine ⟨l, _, 1, _, rfl, rfl, .of hl, rfl, s0, (10 : Int) ^ ((29 : Int).toNat), rfl, z5, (by rw [p29]; decide), (by rw [p29]; decide), fun H6 r6 b6 z6 r60 r61 => ?_⟩
        rw [p29] at r61
        exact ⟨r6.toNat, by rw [show ((r6.toNat : Nat) : Int) = r6 by omega]; rfl, by omega, (Same.but (Same.refl _)).trans (bb.trans b6), z6⟩
    obtain ⟨a, rfl, la, b1, z1⟩ := hM
    refine ⟨fun σ' H' => ∃ b : Nat, σ' = [some (.ref s0), some (.ref p), some u, some (.int a), some (.int b), none, none, none, none] ∧ b ≤ 100000000000000000000000000000 ∧ But s0 H H' ∧ SM H' s0, ?_, fun σ' H2 hM => ?_⟩
    · refine ⟨_, rfl, _, _, rfl, rfl, ⟨by decide, by decide, by decide⟩, (by show 2 ≤ sizeLine; decide), fun l nl => ?_⟩
      refine ⟨_, rfl, s0, 2, rfl, z1.same (same_upd nl), by decide, by decide, fun H5 r5 b5 z5 r50 r51 => ?_⟩
      have hl := b5 _ _ (SM.ne z1 nl) upd_same
      have bb : But s0 _ H5 := (Same.but (same_upd nl)).trans b5
      rcases (show r5 = 0 ∨ r5 = 1 by omega) with e | e
      · subst e
        refine ⟨l, _, 0, _, rfl, rfl, .of hl, rfl, s0, 5, rfl, z5, by decide, by decide, fun H6 r6 b6 z6 r60 r61 => ?_⟩
        exact ⟨r6.toNat, by rw [show ((r6.toNat : Nat) : Int) = r6 by omega]; rfl, by omega, b1.trans (bb.trans b6), z6⟩
      · subst e
        refine ⟨l, _, 1, _, rfl, rfl, .of hl, rfl, s0, (10 : Int) ^ ((29 : Int).toNat), rfl, z5, (by rw [p29]; decide), (by rw [p29]; decide), fun H6 r6 b6 z6 r60 r61 => ?_⟩
        rw [p29] at r61
        exact ⟨r6.toNat, by rw [show ((r6.toNat : Nat) : Int) = r6 by omega]; rfl, by omega, b1.trans (bb.trans b6), z6⟩
    obtain ⟨b, rfl, lb, b2, z2⟩ := hM
    have hR2 := hR.butM z0 b2
    have hu2 := hu.butM z0 b2
    clear b1 z1
    refine ⟨_, rfl, _, rfl, _, rfl, .ref p, u, rs, st, a, rfl, hR2.dress, ok, l4, by omega, by omega, hu2.dress, so, fun H3 m s3 h3 => ?_⟩
    rw [Int.toNat_natCast] at h3
    have hR3 := hR2.same s3
    have hu3 := hu2.same s3
    refine ⟨_, rfl, _, rfl, _, rfl, .ref p, m, rs, _, b, rfl, hR3.dress, ok, l4, by omega, by omega, h3.dress, okI a, fun H4 w4 s4 h4 => ?_⟩
    have hR4 := hR3.same s4
    have hu4 := hu3.same s4
    refine ⟨_, rfl, _, rfl, _, rfl, _, _, rfl, rfl, _, rfl, .ref p, u, rs, st, _, rfl, hR4.dress, ok, l4, by omega, by omega, hu4.dress, so, fun H5 w5 s5 h5 => ?_⟩
    rw [show (((a : Nat) : Int) + ((b : Nat) : Int)).toNat = a + b by omega] at h5
    refine ⟨_, _, dp_o (h4.same s5), dp_o h5, shaped_o (by rw [← itS_add]; exact okI _), shaped_o (okI _), _, rfl, iteN (by rw [eqv_o, itS_add, Int.toNat_natCast, decide_eq_true rfl]; rfl) ?_⟩
    have hR5 := hR4.same s5
    have hu5 := hu4.same s5
    refine ⟨_, rfl, _, rfl, .ref p, u, rs, st, 1, rfl, hR5.dress, ok, l4, by decide, by decide, hu5.dress, so, fun H6 w6 s6 h6 => ?_⟩
    have hR6 := hR5.same s6
    have hu6 := hu5.same s6
    refine ⟨_, rfl, _, rfl, .ref p, rs, u, st, rfl, hR6.dress, ok, hu6.dress, so, fun H7 w7 s7 h7 => ?_⟩
    refine ⟨_, _, dp_o (h6.same s7), dp_o h7, shaped_o (okI _), shaped_o (okI 1), _, rfl, iteN (by rw [eqv_o, decide_eq_true (show itS rs st (Int.toNat 1) = stR rs st from rfl)]; rfl) ?_⟩
    have hR7 := hR6.same s7
    have hu7 := hu6.same s7
    have s27 := s3.trans (s4.trans (s5.trans (s6.trans s7)))
    refine ⟨_, rfl, _, rfl, .ref p, u, rs, st, rfl, hR7.dress, ok, l4, hu7.dress, so, fun r e => ?_, fun gn H8 s8 => ?_, fun gn H8 t8 x8 y8 s8 h8 rr => ?_⟩
    · have h1 := bd r e
      have h2 := ps r e
      exact Nat.lt_of_le_of_lt (show r.2.natAbs ≤ 2 ^ 70 by omega) (Nat.pow_lt_pow_right (by decide) (by decide))
    · refine ⟨_, rfl, rfl, _, rfl, iteP rfl ?_⟩
      refine ⟨_, rfl, .ref p, rs, rfl, (hR7.same s8).dress, ok, l4, fun H9 v9 s9 h9 => ⟨rfl, ?_⟩⟩
      have nn : v9 ≠ .non := fun z => by
        cases hg : grR rs with
        | none => exact gn hg
        | some g =>
          rw [hg] at h9
          obtain ⟨t, rfl, _⟩ := h9
          cases z
      rw [decide_eq_false nn]
      exact q _ (b2.trans (Same.but (s27.trans (s8.trans s9)))) ((z2.same s27).same (s8.trans s9))
    · obtain ⟨x, y, rfl, rfl, ir⟩ := ret_is pos ps rr
      have rb := ret_bound pos l4 gn ps bd ir
      obtain ⟨y1, same, ne⟩ := id ir
      refine ⟨_, rfl, rfl, _, rfl, iteN rfl ?_⟩
      refine ⟨_, rfl, t8, _, rfl, .of h8, rfl, _, _, rfl, _, _, rfl, rfl, ?_⟩
      have hR8 := hR7.same s8
      have hu8 := hu7.same s8
      have q8 : ∀ H', Same H8 H' → Q (.bl true) H' := fun H' s => q _ (b2.trans (Same.but (s27.trans (s8.trans s)))) ((z2.same s27).same (s8.trans s))
      refine ⟨_, rfl, _, _, rfl, rfl, _, rfl, iteN (decide_eq_false (by omega)) ?_⟩
      refine ⟨_, rfl, _, rfl, _, rfl, _, rfl, _, rfl, _, _, rfl, rfl, p, u, rs, st, x, x + y, rfl, hR8, ok, l4, hu8, so, by omega, by omega, fun H9 s9 => ⟨_, rfl, ?_⟩⟩
      rw [decide_eq_true same]
      refine iteN rfl ?_
      refine ⟨_, rfl, _, _, rfl, rfl, _, rfl, ite2 (fun e => ?_) (fun e => ?_)⟩
      · have x0 : 0 < x := by
          have : (0 : Int) < (x : Int) := of_decide_eq_true e
          omega
        refine ⟨_, rfl, _, rfl, _, rfl, _, _, rfl, rfl, _, rfl, _, _, rfl, rfl, _, rfl, _, _, rfl, rfl, p, u, rs, st, x - 1, x - 1 + y, (by show [V.ref p, u, V.int ((x : Int) - 1), V.int ((x : Int) - 1 + (y : Int))] = [V.ref p, u, V.int ((x - 1 : Nat) : Int), V.int ((x - 1 + y : Nat) : Int)]; rw [show ((x - 1 + y : Nat) : Int) = (x : Int) - 1 + y by omega, show ((x - 1 : Nat) : Int) = (x : Int) - 1 by omega]), hR8.same s9, ok, l4, hu8.same s9, so, by omega, by omega, fun H10 s10 => ⟨_, rfl, ?_⟩⟩
        rw [decide_eq_false (ne (x - 1) (x - 1 + y) (by omega) (by omega))]
        refine iteN rfl ?_
        have s910 := s9.trans s10
        refine ⟨_, rfl, rfl, _, rfl, ite2 (fun e2 => q8 _ s910) (fun e2 => ?_)⟩
        have y2 : y ≠ 1 := fun z => e2 (decide_eq_true (by rw [z]; rfl))
        refine ⟨_, rfl, _, rfl, _, rfl, _, rfl, _, _, rfl, rfl, p, u, rs, st, x, x + 1, rfl, hR8.same s910, ok, l4, hu8.same s910, so, by omega, by omega, fun H11 s11 => ⟨_, rfl, ?_⟩⟩
        rw [decide_eq_false (ne x (x + 1) (by omega) (by omega))]
        exact q8 _ (s910.trans s11)
      · refine iteN rfl ?_
        refine ⟨_, rfl, rfl, _, rfl, ite2 (fun e2 => q8 _ s9) (fun e2 => ?_)⟩
        have y2 : y ≠ 1 := fun z => e2 (decide_eq_true (by rw [z]; rfl))
        refine ⟨_, rfl, _, rfl, _, rfl, _, rfl, _, _, rfl, rfl, p, u, rs, st, x, x + 1, rfl, hR8.same s9, ok, l4, hu8.same s9, so, by omega, by omega, fun H11 s11 => ⟨_, rfl, ?_⟩⟩
        rw [decide_eq_false (ne x (x + 1) (by omega) (by omega))]
        exact q8 _ (s9.trans s11)
end
end UP

set_option Elab.async false
set_option linter.all false
set_option maxRecDepth 100000
set_option maxHeartbeats 4000000
set_option pp.maxSteps 600
namespace UP
open PySem PySem.Spec PyProof.Rows L2
theorem ag_iff {g : Run} {b a : Option Run} (h : agB g b a = true) : (∀ r, b = some r → r.1 = g.1) ∧ a = some (g.1, numR b + g.2) := by
  unfold agB at h
  rw [Bool.and_eq_true] at h
  refine ⟨fun r e => ?_, of_decide_eq_true h.2⟩
  subst e
  exact of_decide_eq_true h.1
theorem ag_no {g : Run} {b a : Option Run} (h : agB g b a = false) (kb : ∀ r, b = some r → r.1 = g.1) (ka : ∀ r, a = some r → r.1 = g.1) (pb : PosO b) (g1 : 1 ≤ g.2) : numR a - numR b ≠ g.2 := fun z => by
  have h : decide (a = some (g.1, numR b + g.2)) = false := by
    cases b with
    | none =>
      have h : (true && _) = false := h
      rw [Bool.true_and] at h
      exact h
    | some r =>
      have h : (decide (r.1 = g.1) && _) = false := h
      rw [decide_eq_true (kb r rfl), Bool.true_and] at h
      exact h
  have h := of_decide_eq_false h
  cases a with
  | none =>
    have z : (0 : Int) - numR b = g.2 := z
    cases b with
    | none =>
      have z : (0 : Int) - 0 = g.2 := z
      omega
    | some r =>
      have z : (0 : Int) - r.2 = g.2 := z
      have := pb r rfl
      omega
  | some r =>
    have z : r.2 - numR b = g.2 := z
    refine h ?_
    rw [← ka r rfl, show numR b + g.2 = r.2 by omega]
section
variable {P : Program} {w : World} {K : PySem.W.Frag} {mg : Str → Option Value} {base : Heap}
/-! _law_growth_holds: slots 0:sequence 1:state 2:growth 3:start 4:states 5:sizes 6:before 7:kind 8:more 9:k 10:one -/
abbrev s_law_growth_holds : Stmt := topS 81
theorem sc_law_growth_holds : FnScope ["sequence", "state", "growth", "start", "states", "sizes", "before", "kind", "more", "k", "one"] ["sequence", "state"] (defScope s_law_growth_holds) := ⟨rfl, rfl, rfl, by decide +kernel, rfl, by decide +kernel, by decide +kernel⟩
def sp_law_growth_holds : Sp := fun vs H Q _ => ∃ (p : Addr) (u : V) (rs : List Run) (st : Option Run), vs = [.ref p, u] ∧ Runs H p rs ∧ SeqOk rs ∧ lenR rs ≤ 400 ∧ StV H u st ∧ StOk st ∧ (∀ r, st = some r → r.2 ≤ 100000000000000000000) ∧ ∀ H', Same H H' → Q (.bl true) H'
theorem ok_law_growth_holds (D : Df K mg "_law_growth_holds" s_law_growth_holds) (T : Tx mg) (G_after_rounds : HasD P w K mg base 8 "after_rounds" ["sequence", "rounds", "state"] 2 "state" sp_after_rounds)
    (G_return_of : HasD P w K mg base 8 "return_of" ["sequence", "state"] 1 "state" sp_return_of) (G_growing_from : HasD P w K mg base 8 "growing_from" ["sequence", "state"] 1 "state" sp_growing_from) (G_growth_of : Has P w K mg base 8 "growth_of" ["sequence"] sp_growth_of) : Has P w K mg base 9 "_law_growth_holds" ["sequence", "state"] sp_law_growth_holds := by
  refine has_of D sc_law_growth_holds (fun _ _ _ _ _ _ us hl => match us, hl with | [_, _], _ => rfl) (fun vs H Q E h => ?_) (fun f cdv A₀ outer s₀ H vs Q E hr h => ?_)
  · obtain ⟨_, _, _, _, rfl, _⟩ := h
    rfl
  · obtain ⟨p, u, rs, st, rfl, hR, ok, l4, hu, so, bd, q⟩ := h
    have pos : ∀ r ∈ rs, 1 ≤ r.2 := fun r hr => (ok.2.1 r hr).2.1
    have ps : PosO st := fun r e => (so r e).2
    have okI : ∀ n, StOk (itS rs st n) := itS_ok (fun r hr => ⟨(ok.2.1 r hr).1, (ok.2.1 r hr).2.1⟩) so
    have s40 : ∀ r, st = some r → r.2.natAbs < 2 ^ 400000 := fun r e => by
      have h1 := bd r e
      have h2 := ps r e
      exact Nat.lt_of_le_of_lt (show r.2.natAbs ≤ 2 ^ 70 by omega) (Nat.pow_lt_pow_right (by decide) (by decide))
    refine ⟨_, (pss_cons (ps_set (i := 2) sc_law_growth_holds.nd rfl (by first | exact Or.inl rfl | exact Or.inr rfl) (pe_callH G_growth_of (hr.mono (by omega)) (by rfl) (pa_cons (pv 0) pa_nil)))
    (pss_cons (ps_set (i := 3) sc_law_growth_holds.nd rfl (by first | exact Or.inl rfl | exact Or.inr rfl) (pe_callH G_growing_from.has (hr.mono (by omega)) (by rfl) (pa_cons (pv 0) (pa_cons (pv 1) pa_nil))))
    (pss_cons (ps_if (pt_cmpR op_isN (pv 2) pe_non (nomark _)) (pss_one (ps_ret (pe_and (pe_cmpR op_isN (pv 3) pe_non (nomark _)) (pe_one (pe_cmpR op_notN (pe_callH G_return_of.has (hr.mono (by omega)) (by rfl) (pa_cons (pv 0) (pa_cons (pv 1) pa_nil))) pe_non (nomark _)))))) pss_nil)
    (pss_cons (ps_asg (pv 2) (pg_tup rfl (pgs_cons (pg_name (i := 7) sc_law_growth_holds.nd rfl (by first | exact Or.inl rfl | exact Or.inr rfl)) (pgs_cons (pg_name (i := 8) sc_law_growth_holds.nd rfl (by first | exact Or.inl rfl | exact Or.inr rfl)) pgs_nil))))
    (pss_cons (ps_setLc (i := 4) (own := [("k", 9)]) rfl sc_law_growth_holds.nd rfl rfl (sw_true rfl rfl rfl (by decide +kernel)) (pi_range1 (by rfl) T.n_range (pa_cons pe_int pa_nil)) (blkOk_by (N := ["sequence", "state", "growth", "start", "states", "sizes", "before", "kind", "more", "k", "one"]) (sc := defScope s_law_growth_holds) (by decide +kernel)) (fun _ _ _ _ _ => (pg_name (i := 9) sc_law_growth_holds.nd rfl (by first | exact Or.inl rfl | exact Or.inr rfl))) (fun _ _ _ _ _ => pts_nil) (fun _ _ _ _ _ => (pe_callH G_after_rounds.has (hr.mono (by omega)) (by rfl) (pa_cons (pv 0) (pa_cons (pe_op op_add (pv 3) (pv 9)) (pa_cons (pv 1) pa_nil))))))
    (pss_cons (ps_setLc (i := 5) (own := [("one", 10)]) rfl sc_law_growth_holds.nd rfl rfl (sw_true rfl rfl rfl (by decide +kernel)) (pi_list (pv 4)) (blkOk_by (N := ["sequence", "state", "growth", "start", "states", "sizes", "before", "kind", "more", "k", "one"]) (sc := defScope s_law_growth_holds) (by decide +kernel)) (fun _ _ _ _ _ => (pg_name (i := 10) sc_law_growth_holds.nd rfl (by first | exact Or.inl rfl | exact Or.inr rfl))) (fun _ _ _ _ _ => pts_nil) (fun _ _ _ _ _ => (pe_ifExp (pt_cmpR op_isN (pv 10) pe_non (nomark _)) pe_int (pe_ix (ix_tupK (K := K) rfl) (pv 10) pe_int (fun _ _ => rfl)))))
    (pss_cons (ps_if (pt_cmpR (op_neD hr.units) (pe_lc (own := [("one", 10)]) rfl sc_law_growth_holds.nd (pi_list (pv 4)) (blkOk_by (N := ["sequence", "state", "growth", "start", "states", "sizes", "before", "kind", "more", "k", "one"]) (sc := defScope s_law_growth_holds) (by decide +kernel)) (fun _ _ _ _ _ => (pg_name (i := 10) sc_law_growth_holds.nd rfl (by first | exact Or.inl rfl | exact Or.inr rfl))) (fun _ _ _ _ _ => pts_one (PW.pt (pw_and (pt_cmpR op_notN (pv 10) pe_non (nomark _)) (pw_and1 (pt_cmpR op_ne (pe_ix (ix_tupK (K := K) rfl) (pv 10) pe_int (fun _ _ => rfl)) (pv 7) (nomark _)))))) (fun _ _ _ _ _ => (pv 10))) (pe_lst pa_nil) (nomark _)) (pss_one (ps_ret pe_bl)) pss_nil)
    (pss_cons (ps_if (PW.pt (pw_or (pt_cmpR op_ne (pe_op op_sub (pe_ix ix_list (pv 5) pe_int (fun _ _ => rfl)) (pe_ix ix_list (pv 5) pe_int (fun _ _ => rfl))) (pv 8) (nomark _)) (pw_or1 (pt_cmpR op_ne (pe_op op_sub (pe_ix ix_list (pv 5) pe_int (fun _ _ => rfl)) (pe_ix ix_list (pv 5) pe_int (fun _ _ => rfl))) (pv 8) (nomark _))))) (pss_one (ps_ret pe_bl)) pss_nil)
    (pss_cons (ps_if (pt_cmpR op_eq (pv 3) pe_int (nomark _)) (pss_one (ps_ret pe_bl)) pss_nil)
    (pss_cons (ps_set (i := 6) sc_law_growth_holds.nd rfl (by first | exact Or.inl rfl | exact Or.inr rfl) (pe_callH G_after_rounds.has (hr.mono (by omega)) (by rfl) (pa_cons (pv 0) (pa_cons (pe_op op_sub (pv 3) pe_int) (pa_cons (pv 1) pa_nil)))))
    (pss_cons (ps_if (PW.pt (pw_and (pt_cmpR op_notN (pv 6) pe_non (nomark _)) (pw_and1 (pt_cmpR op_ne (pe_ix ix_tup (pv 6) pe_int (fun _ _ => rfl)) (pv 7) (nomark _))))) (pss_one (ps_ret pe_bl)) pss_nil)
    (pss_one (ps_ret (pe_cmpR op_ne (pe_op op_sub (pe_ix ix_list (pv 5) pe_int (fun _ _ => rfl)) (pe_ifExp (pt_cmpR op_isN (pv 6) pe_non (nomark _)) pe_int (pe_ix ix_tup (pv 6) pe_int (fun _ _ => rfl)))) (pv 8) (nomark _))))))))))))))), ?_⟩
    refine ⟨_, rfl, .ref p, rs, rfl, hR.dress, ok, l4, fun H1 v1 s1 h1 => ?_⟩
    refine ⟨_, rfl, _, rfl, .ref p, u, rs, st, rfl, (hR.same s1).dress, ok, l4, (hu.same s1).dress, so, s40, fun gn H2 s2 => ?_, fun g hg H2 b s2 ib => ?_⟩
    · rw [gn] at h1
      cases h1
      refine ⟨_, rfl, rfl, _, rfl, iteP rfl ?_⟩
      refine ⟨_, rfl, rfl, _, rfl, iteP rfl ?_⟩
      refine ⟨_, rfl, _, rfl, .ref p, u, rs, st, rfl, ((hR.same s1).same s2).dress, ok, l4, ((hu.same s1).same s2).dress, so, s40, fun gx => absurd gn gx, fun _ H3 t a b s3 h3 rr => ⟨rfl, ?_⟩⟩
      exact q _ (s1.trans (s2.trans s3))
    · rw [hg] at h1
      obtain ⟨t1, rfl, ht1⟩ := h1
      have bb := beg_bound pos l4 hg ps bd ib
      obtain ⟨gf, g1⟩ := gr_fall hg
      refine ⟨_, rfl, rfl, _, rfl, iteN rfl ?_⟩
      refine ⟨_, rfl, t1, _, rfl, .of (s2 _ _ ht1), rfl, _, _, rfl, _, _, rfl, rfl, ?_⟩
      have hR2 := (hR.same s1).same s2
      have hu2 := (hu.same s1).same s2
      refine ⟨3, rfl, by decide, by decide, fun L nL => ?_⟩
      refine lc_range (lo := 0) (n := 3) (fun i H' => Same H2 H' ∧ StL H' L ((List.range i).map fun j => itS rs st (b + j))) ⟨same_upd nL, ⟨[], upd_same, .nil⟩⟩ (fun i H3 hi hP => ?_) (fun H3 hP => ?_)
      · obtain ⟨sm, xs, hx, hp⟩ := hP
        have lx : xs.length = i := by
          have := Paired.len hp
          rw [List.length_map, List.length_range] at this
          exact this
        refine ⟨rfl, yesT ⟨_, rfl, _, rfl, _, rfl, _, _, rfl, rfl, _, rfl, .ref p, u, rs, st, (b : Int) + (0 + (i : Int)), rfl, (hR2.same sm).dress, ok, l4, by omega, by omega, (hu2.same sm).dress, so, fun H4 v4 s4 h4 => ?_⟩⟩
        rw [show ((b : Int) + (0 + (i : Int))).toNat = b + i by omega] at h4
        have hx4 := s4 _ _ hx
        refine ⟨xs, hx4, small (by omega), same_grow nL (sm.trans s4), ⟨_, upd_same, ?_⟩⟩
        rw [List.range_succ, List.map_append]
        exact Paired.app (sts_grow hx4 (sts_same s4 hp)) (.cons (h4.growE hx4) .nil)
      obtain ⟨sm, xs, hx, hp⟩ := hP
      have e3 : ((List.range 3).map fun j => itS rs st (b + j)) = [itS rs st b, itS rs st (b + 1), itS rs st (b + 2)] := rfl
      rw [e3] at hp
      have a0 := ib.1 b (Nat.le_refl _)
      have a1 := ib.1 (b + 1) (by omega)
      have bef : ∀ i, i + 1 = b → agB g (itS rs st i) (itS rs st b) = false := fun i e => by
        have := ib.2 i e
        rw [e] at this
        exact this
      have p0 := itS_pos pos ps b
      have o0 := okI b
      have o1 := okI (b + 1)
      have o2 := okI (b + 2)
      have a1 : agB g (itS rs st (b + 1)) (itS rs st (b + 2)) = true := a1
      generalize itS rs st b = t0 at hp a0 bef p0 o0
      generalize itS rs st (b + 1) = t1 at hp a0 a1 o1
      generalize itS rs st (b + 2) = t2 at hp a1 o2
      cases hp with
      | cons h0 hp =>
      cases hp with
      | cons h1 hp =>
      cases hp with
      | cons h2 hp =>
      cases hp
      rename_i x0 x1 x2
      have hpA : Paired (StV H3) [x0, x1, x2] [t0, t1, t2] := .cons h0 (.cons h1 (.cons h2 .nil))
      obtain ⟨k0, e1⟩ := ag_iff a0
      obtain ⟨k1, e2⟩ := ag_iff a1
      have kA : ∀ t ∈ [t0, t1, t2], ∀ r, t = some r → r.1 = g.1 := fun t ht r e => by
        have : t = t0 ∨ t = t1 ∨ t = t2 := by simpa using ht
        rcases this with h | h | h
        · exact k0 r (by rw [← h, e])
        · exact k1 r (by rw [← h, e])
        · rw [h, e2] at e
          cases e
          rfl
      have hR3 := hR2.same sm
      have hu3 := hu2.same sm
      have s03 := s1.trans (s2.trans sm)
      refine ⟨_, rfl, L, rfl, ⟨_, .of hx⟩, fun M nM => lc_list (K := K) (a := L) (xs := [x0, x1, x2]) (fun i H' => Same H3 H' ∧ H' M = some (.lst ((([t0, t1, t2].map numR).take i).map V.int))) ⟨same_upd nM, upd_same⟩ (fun i H' _ p => .of (p.1 _ _ hx)) (fun i x H4 ex hP => ?_) (fun H4 hP => ?_)⟩
      · obtain ⟨sm4, hM⟩ := hP
        obtain ⟨t, et, ht⟩ := Paired.at hpA ex
        have ht := ht.same sm4
        have i3 : i < 3 := (List.getElem?_eq_some_iff.mp et).1
        have fin : ∀ (n : Int), n = numR t → ∃ acc, H4 M = some (HO.lst acc) ∧ acc.length < sizeLine ∧ Same H3 (upd H4 M (HO.lst (acc ++ [V.int n]))) ∧ upd H4 M (HO.lst (acc ++ [V.int n])) M = some (HO.lst ((([t0, t1, t2].map numR).take (i + 1)).map V.int)) := fun n en => by
          refine ⟨_, hM, ?_, same_grow nM sm4, ?_⟩
          · simp only [List.length_map, List.length_take]
            exact small (by omega)
          · rw [upd_same, take_snoc (x := numR t) (by rw [List.getElem?_map, et]; rfl), List.map_append, en]
            rfl
        refine ⟨rfl, yesT ?_⟩
        cases t with
        | none =>
          cases ht
          exact ⟨_, rfl, rfl, _, rfl, iteP rfl (fin 0 rfl)⟩
        | some r =>
          obtain ⟨tt, rfl, htt⟩ := ht
          exact ⟨_, rfl, rfl, _, rfl, iteN rfl ⟨_, rfl, tt, _, _, _, rfl, rfl, .of htt, at1, fin r.2 rfl⟩⟩
      obtain ⟨sm4, hM⟩ := hP
      have hM : H4 M = some (.lst [.int (numR t0), .int (numR t1), .int (numR t2)]) := hM
      have hx4 := sm4 _ _ hx
      have hpB : Paired (StV H4) [x0, x1, x2] [t0, t1, t2] := sts_same sm4 hpA
      refine ⟨_, rfl, L, rfl, ⟨_, .of hx4⟩, fun R nR => lc_list (K := K) (a := L) (xs := [x0, x1, x2]) (fun i H' => Same H4 H' ∧ H' R = some (.lst [])) ⟨same_upd nR, upd_same⟩ (fun i H' _ p => .of (p.1 _ _ hx4)) (fun i x H5 ex hP => ?_) (fun H5 hP => ?_)⟩
      · obtain ⟨sm5, hRl⟩ := hP
        obtain ⟨t, et, ht⟩ := Paired.at hpB ex
        have ht := ht.same sm5
        have kt := kA t (List.mem_of_getElem? et)
        refine ⟨rfl, ?_⟩
        cases t with
        | none =>
          cases ht
          exact ⟨_, rfl, rfl, _, rfl, iteN rfl ⟨sm5, hRl⟩⟩
        | some r =>
          obtain ⟨tt, rfl, htt⟩ := ht
          refine ⟨_, rfl, rfl, _, rfl, iteP rfl ⟨_, rfl, tt, _, _, _, rfl, rfl, .of htt, at0, _, rfl, rfl, _, rfl, ?_⟩⟩
          rw [decide_eq_true (show V.str r.1 = V.str g.1 by rw [kt r rfl])]
          exact ⟨sm5, hRl⟩
      obtain ⟨sm5, hRl⟩ := hP
      refine ⟨Nat.zero_le _, fun c nc => ?_⟩
      have sc := same_upd (o := .lst []) nc
      refine ⟨.list [], .list [], .lst (.of (sc _ _ hRl)) .nil, .lst (.of upd_same) .nil, shaped_nil, shaped_nil, _, rfl, iteN (by decide +kernel) ?_⟩
      have hM6 := sc _ _ (sm5 _ _ hM)
      have s06 := s03.trans (sm4.trans (sm5.trans sc))
      obtain ⟨H6, eH⟩ : ∃ H6, upd H5 c (.lst []) = H6 := ⟨_, rfl⟩
      rw [eH] at hM6 s06 sc ⊢
      have n1 : numR t1 = numR t0 + g.2 := by rw [e1]; rfl
      have n2 : numR t2 = numR t1 + g.2 := by rw [e2]; rfl
      refine ⟨_, rfl, M, _, 1, _, rfl, rfl, .of hM6, rfl, _, rfl, M, _, 0, _, rfl, rfl, .of hM6, rfl, _, _, rfl, rfl, _, rfl, rfl, _, rfl, iteN (by rw [decide_eq_true (show V.int _ = V.int _ by congr 1; omega)]; rfl) ?_⟩
      refine ⟨_, rfl, M, _, 2, _, rfl, rfl, .of hM6, rfl, _, rfl, M, _, 1, _, rfl, rfl, .of hM6, rfl, _, _, rfl, rfl, _, rfl, rfl, _, rfl, iteN (by rw [decide_eq_true (show V.int _ = V.int _ by congr 1; omega)]; rfl) ?_⟩
      refine ⟨_, rfl, rfl, _, rfl, ite2 (fun _ => q _ s06) (fun eb => ?_)⟩
      have b1 : 1 ≤ b := by
        refine Nat.one_le_iff_ne_zero.mpr fun z => eb (decide_eq_true ?_)
        rw [z]
        rfl
      have s36 : Same H3 H6 := sm4.trans (sm5.trans sc)
      refine ⟨_, rfl, _, rfl, _, _, rfl, rfl, _, rfl, .ref p, u, rs, st, (b : Int) - 1, rfl, (hR3.same s36).dress, ok, l4, by omega, by omega, (hu3.same s36).dress, so, fun H7 v7 s7 h7 => ?_⟩
      rw [show ((b : Int) - 1).toNat = b - 1 by omega] at h7
      have no := bef (b - 1) (by omega)
      have pb := itS_pos pos ps (b - 1)
      generalize itS rs st (b - 1) = tb at h7 no pb
      have hM7 := s7 _ _ hM6
      have q7 := q _ (s06.trans s7)
      have kk0 : ∀ r, t0 = some r → r.1 = g.1 := kA t0 (by simp)
      cases tb with
      | none =>
        cases h7
        refine ⟨_, rfl, rfl, _, rfl, iteN rfl ?_⟩
        refine ⟨_, rfl, M, _, 0, _, rfl, rfl, .of hM7, rfl, _, rfl, rfl, _, rfl, iteP rfl ⟨_, _, rfl, rfl, _, rfl, rfl, ?_⟩⟩
        have nz : numR t0 - 0 ≠ g.2 := ag_no no (fun r e => by cases e) kk0 pb g1
        rw [decide_eq_false (fun z => nz (V.int.inj z))]
        exact q7
      | some r =>
        obtain ⟨tt, rfl, htt⟩ := h7
        refine ⟨_, rfl, rfl, _, rfl, iteP rfl ⟨_, rfl, tt, _, _, _, rfl, rfl, .of htt, at0, _, rfl, rfl, _, rfl, ?_⟩⟩
        by_cases c : r.1 = g.1
        · refine iteN (by rw [decide_eq_true (show V.str r.1 = V.str g.1 by rw [c])]; rfl) ?_
          refine ⟨_, rfl, M, _, 0, _, rfl, rfl, .of hM7, rfl, _, rfl, rfl, _, rfl, iteN rfl ⟨_, rfl, tt, _, _, _, rfl, rfl, .of htt, at1, _, _, rfl, rfl, _, rfl, rfl, ?_⟩⟩
          have nz : numR t0 - r.2 ≠ g.2 := ag_no no (fun r' e => by cases e; exact c) kk0 pb g1
          rw [decide_eq_false (fun z => nz (V.int.inj z))]
          exact q7
        · exact iteP (by rw [decide_eq_false (show ¬ V.str r.1 = V.str g.1 from fun z => c (V.str.inj z))]; rfl) q7
end
end UP

set_option Elab.async false
set_option linter.all false
set_option maxRecDepth 100000
set_option maxHeartbeats 4000000
set_option pp.maxSteps 600
namespace UP
open PySem PySem.Spec PyProof.Rows L2
theorem StL.butM {st e : Addr} {H H' : Hp} {es : List (Option Run)} (z : SM H st) (n : e ≠ st) (b : But st H H') (h : StL H e es) : StL H' e es := by
  obtain ⟨xs, hx, hp⟩ := h
  exact ⟨xs, b _ _ n hx, Paired.imp (fun _ _ s => s.butM z b) hp⟩
section
variable {P : Program} {w : World} {K : PySem.W.Frag} {mg : Str → Option Value} {base : Heap}
/-! _law_effects_hold: slots 0:stream 1:sequence 2:kind 3:effects 4:number 5:state 6:before 7:due 8:size 9:one -/
abbrev s_law_effects_hold : Stmt := topS 77
theorem sc_law_effects_hold : FnScope ["stream", "sequence", "kind", "effects", "number", "state", "before", "due", "size", "one"] ["stream", "sequence"] (defScope s_law_effects_hold) := ⟨rfl, rfl, rfl, by decide +kernel, rfl, by decide +kernel, by decide +kernel⟩
def sp_law_effects_hold : Sp := fun vs H Q _ => ∃ (s0 p : Addr) (rs : List Run), vs = [.ref s0, .ref p] ∧ SM H s0 ∧ Runs H p rs ∧ SeqOk rs ∧ lenR rs ≤ 400 ∧ ∀ H', But s0 H H' → SM H' s0 → Q (.bl true) H'
theorem ok_law_effects_hold (D : Df K mg "_law_effects_hold" s_law_effects_hold) (T : Tx mg) (G_law_draw : Has P w K mg base 1 "_law_draw" ["stream", "many"] sp_law_draw) (G_law_length : Has P w K mg base 1 "_law_length" ["sequence"] sp_law_length)
    (G_effect_of : Has P w K mg base 8 "effect_of" ["sequence", "kind"] sp_effect_of) (G_effect_on : Has P w K mg base 5 "effect_on" ["effects", "kind", "state"] sp_effect_on)
    (G_state_after : HasD P w K mg base 6 "state_after" ["sequence", "state"] 1 "state" sp_state_after) (G_states_before : Has P w K mg base 8 "states_before" ["sequence", "state", "kinds"] sp_states_before) : Has P w K mg base 9 "_law_effects_hold" ["stream", "sequence"] sp_law_effects_hold := by
  have G_effect_on := G_effect_on.eff
  refine has_of D sc_law_effects_hold (fun _ _ _ _ _ _ us hl => match us, hl with | [_, _], _ => rfl) (fun vs H Q E h => ?_) (fun f cdv A₀ outer s₀ H vs Q E hr h => ?_)
  · obtain ⟨_, _, _, rfl, _⟩ := h
    rfl
  · obtain ⟨s0, p, rs, rfl, z0, hR, ok, l4, q⟩ := h
    have pos : ∀ r ∈ rs, 1 ≤ r.2 := fun r hr => (ok.2.1 r hr).2.1
    have li := len_it rs pos
    have iok : ∀ x ∈ itR rs, KindOk x := it_kinds fun r hr => (ok.2.1 r hr).1
    have r4 := ok.1
    refine ⟨_, (pss_cons (ps_set (i := 2) sc_law_effects_hold.nd rfl (by first | exact Or.inl rfl | exact Or.inr rfl) (pe_ix ix_str pe_str (pe_callH G_law_draw (hr.mono (by omega)) (by rfl) (pa_cons (pv 0) (pa_cons pe_int pa_nil))) (fun _ _ => rfl)))
    (pss_cons (ps_set (i := 3) sc_law_effects_hold.nd rfl (by first | exact Or.inl rfl | exact Or.inr rfl) (pe_callH G_effect_of (hr.mono (by omega)) (by rfl) (pa_cons (pv 1) (pa_cons (pv 2) pa_nil))))
    (pss_cons (ps_if (pt_cmpR op_gt (pe_callB call_len_seq (by rfl) T.n_len (by decide +kernel) (pa_cons (pv 3) pa_nil)) (pe_op op_add (pe_callH G_law_length (hr.mono (by omega)) (by rfl) (pa_cons (pv 1) pa_nil)) pe_int) (nomark _)) (pss_one (ps_ret pe_bl)) pss_nil)
    (pss_cons (ps_for PassesOwn.never rfl (pi_list (pe_op op_cat ((pe_listRg rfl (by rfl) T.n_list (prg_1 (by rfl) T.n_range (pe_op op_add (pe_callB call_len_seq (by rfl) T.n_len (by decide +kernel) (pa_cons (pv 3) pa_nil)) pe_int)))) (pe_lst (pa_cons (pe_op op_add (pe_op op_pow pe_int pe_int) (pe_callH G_law_draw (hr.mono (by omega)) (by rfl) (pa_cons (pv 0) (pa_cons pe_int pa_nil)))) pa_nil)))) (pg_name (i := 4) sc_law_effects_hold.nd rfl (by first | exact Or.inl rfl | exact Or.inr rfl))
      (C8.pss_cut (ps_set (i := 5) sc_law_effects_hold.nd rfl (by first | exact Or.inl rfl | exact Or.inr rfl) (pe_ifExp (pt_cmpR op_eq (pv 4) pe_int (nomark _)) pe_non (pe_tup (pa_cons (pv 2) (pa_cons (pv 4) pa_nil)))))
    (pss_one (ps_if (pt_cmpR (op_neD hr.units) (pe_callH G_effect_on (hr.mono (by omega)) (by rfl) (pa_cons (pv 3) (pa_cons (pv 2) (pa_cons (pv 5) pa_nil)))) (pe_callH G_state_after.has (hr.mono (by omega)) (by rfl) (pa_cons (pv 1) (pa_cons (pv 5) pa_nil))) (nomark _)) (pss_one (ps_ret pe_bl)) pss_nil))))
    (pss_cons (ps_set (i := 4) sc_law_effects_hold.nd rfl (by first | exact Or.inl rfl | exact Or.inr rfl) (pe_callH G_law_draw (hr.mono (by omega)) (by rfl) (pa_cons (pv 0) (pa_cons (pe_op op_add (pe_callB call_len_seq (by rfl) T.n_len (by decide +kernel) (pa_cons (pv 3) pa_nil)) pe_int) pa_nil))))
    (C8.pss_cut (ps_set (i := 5) sc_law_effects_hold.nd rfl (by first | exact Or.inl rfl | exact Or.inr rfl) (pe_ifExp (pt_cmpR op_eq (pv 4) pe_int (nomark _)) pe_non (pe_tup (pa_cons (pv 2) (pa_cons (pv 4) pa_nil)))))
    (pss_cons (ps_set (i := 6) sc_law_effects_hold.nd rfl (by first | exact Or.inl rfl | exact Or.inr rfl) (pe_callH G_states_before (hr.mono (by omega)) (by rfl) (pa_cons (pv 1) (pa_cons (pe_callH G_state_after.has (hr.mono (by omega)) (by rfl) (pa_cons (pv 1) (pa_cons (pv 5) pa_nil))) (pa_cons (pe_lst (pa_cons (pv 2) pa_nil)) pa_nil)))))
    (pss_cons (ps_set (i := 7) sc_law_effects_hold.nd rfl (by first | exact Or.inl rfl | exact Or.inr rfl) (pe_lst pa_nil))
    (pss_cons (ps_for PassesOwn.never rfl (pi_range1 (by rfl) T.n_range (pa_cons (pe_op op_add (pe_op op_add (pv 4) (pe_op op_mulW pe_int (pe_callH G_law_length (hr.mono (by omega)) (by rfl) (pa_cons (pv 1) pa_nil)))) pe_int) pa_nil)) (pg_name (i := 8) sc_law_effects_hold.nd rfl (by first | exact Or.inl rfl | exact Or.inr rfl))
      (C8.pss_cut (ps_set (i := 9) sc_law_effects_hold.nd rfl (by first | exact Or.inl rfl | exact Or.inr rfl) (pe_ifExp (pt_cmpR op_eq (pv 8) pe_int (nomark _)) pe_non (pe_tup (pa_cons (pv 2) (pa_cons (pv 8) pa_nil)))))
    (pss_one (ps_if (pt_cmpR (op_eqD hr.units) (pe_callH G_state_after.has (hr.mono (by omega)) (by rfl) (pa_cons (pv 1) (pa_cons (pv 9) pa_nil))) (pe_callH G_state_after.has (hr.mono (by omega)) (by rfl) (pa_cons (pv 1) (pa_cons (pv 5) pa_nil))) (nomark _)) (pss_one (ps_expr (pe_bm PySem.F.plainAttrs_list PySem.F.slot_list_append PySem.F.type_list_append mt_append (pv 7) (pa_cons (pv 9) pa_nil)))) pss_nil))))
    (pss_one (ps_ret (pe_cmpR (op_eqD hr.units) (pv 6) (pv 7) (nomark _))))))))))))), ?_⟩
    have l6 := let6
    generalize ("abcdeq" : Str) = z6 at l6 ⊢
    have lz : z6.cps.toList.length = z6.length := Array.length_toList
    refine ⟨_, rfl, s0, 6, rfl, z0, by decide, by decide, fun H1 r1 b1 z1 r10 r11 => ?_⟩
    have lt : r1.toNat < z6.cps.toList.length := by
      have := l6.1
      omega
    have ek : z6.cps.toList[r1.toNat]? = some z6.cps.toList[r1.toNat] := List.getElem?_eq_getElem lt
    have kk : KindOk ⟨#[z6.cps.toList[r1.toNat]]⟩ := one_kind (l6.2 _ (List.getElem_mem lt))
    refine ⟨z6, r1, _, rfl, rfl, smallE (by have := l6.1; omega), atI_ofX r10 ek, ?_⟩
    generalize (⟨#[z6.cps.toList[r1.toNat]]⟩ : Str) = k at kk
    have hR1 := hR.butM z0 b1
    refine ⟨_, rfl, _, rfl, .ref p, rs, k, rfl, hR1.dress, ok, l4, kk, fun H2 e es s2 ne he ef => ?_⟩
    have hR2 := hR1.same s2
    have b2 := b1.trans (Same.but s2)
    have z2 := z1.same s2
    obtain ⟨l1, l2⟩ := ef.len
    obtain ⟨ys, hy, hpy⟩ := id he
    have ly : ys.length = es.length := Paired.len hpy
    refine ⟨_, rfl, e, _, rfl, .inl (.of hy), _, rfl, p, rs, rfl, hR2, by omega, fun H3 s3 => ?_⟩
    have hy3 := s3 _ _ hy
    refine ⟨_, _, rfl, rfl, _, _, rfl, rfl, _, rfl, iteN (decide_eq_false (by omega)) ?_⟩
    refine ⟨_, rfl, e, _, rfl, .inl (.of hy3), _, _, rfl, rfl, ?_⟩
    have okF : ∀ n : Int, 0 ≤ n → StOk (fxR (itR rs) k n) := fun n h => stOk_stI _ _ iok (ok_with kk h)
    have stF : ∀ n : Int, 0 ≤ n → stR rs (withR k n) = fxR (itR rs) k n := fun n h => st_items rs _ (pos_with h) pos
    refine ⟨_, rfl, RgOk.of_le (by decide) (by omega) (by decide) (by omega), fun g ng => ?_⟩
    have sg := same_upd (o := .lst (rgV 0 ((ys.length : Int) + 2))) ng
    refine ⟨_, _, rfl, rfl, ⟨by decide, by decide, by decide⟩, _, rfl, s0, 9, rfl, (z2.same s3).same sg, by decide, by decide, fun H4 r5 b4 z4 r50 r51 => ⟨_, _, rfl, rfl, (by show 1 ≤ sizeLine; decide), fun l nl => ?_⟩⟩
    have ngs : g ≠ s0 := SM.ne (z2.same s3) ng
    have hg4 := b4 _ _ ngs upd_same
    have lg : (rgV 0 ((ys.length : Int) + 2)).length ≤ 403 := by
      rw [rgV_length]
      omega
    refine ⟨g, l, _, _, rfl, rfl, same_upd nl _ _ hg4, upd_same, smallE (by show (rgV 0 ((ys.length : Int) + 2)).length + 1 ≤ _; omega), fun L nL => ?_⟩
    have hR4 := ((hR2.same s3).same sg).butM ((z2.same s3).same sg) b4
    have z4' := z4
    have e_s0 : e ≠ s0 := SM.ne z1 ne
    have he4 : StL H4 e es := StL.butM ((z2.same s3).same sg) e_s0 b4 ((he.same s3).same sg)
    have nns : ∀ x ∈ rgV 0 ((ys.length : Int) + 2) ++ [V.int ((10 : Int) ^ ((12 : Int).toNat) + r5)], ∃ n : Int, x = .int n ∧ 0 ≤ n := fun x hx => by
      rcases List.mem_append.mp hx with h | h
      · obtain ⟨j, _, rfl⟩ := List.mem_map.mp h
        exact ⟨_, rfl, by omega⟩
      · rw [List.mem_singleton.mp h]
        have p12 : (0 : Int) ≤ (10 : Int) ^ ((12 : Int).toNat) := by decide
        exact ⟨_, rfl, by omega⟩
    generalize rgV 0 ((ys.length : Int) + 2) ++ [V.int ((10 : Int) ^ ((12 : Int).toNat) + r5)] = nsL at nns ⊢
    have s46 : Same H4 _ := (same_upd nl).trans (same_upd (o := .lst nsL) nL)
    have hL6 : (upd (upd H4 l (.lst [V.int ((10 : Int) ^ ((12 : Int).toNat) + r5)])) L (.lst nsL)) L = some (.lst nsL) := upd_same
    obtain ⟨H6, eH⟩ : ∃ H6, upd (upd H4 l (.lst [V.int ((10 : Int) ^ ((12 : Int).toNat) + r5)])) L (.lst nsL) = H6 := ⟨_, rfl⟩
    rw [eH] at s46 hL6 ⊢
    have he6 := he4.same s46
    have hR6 := hR4.same s46
    have B6 : But s0 H H6 := b2.trans ((Same.but (s3.trans sg)).trans (b4.trans (Same.but s46)))
    have z6 := z4.same s46
    clear hR4 he4 eH nL nl s46 hg4 ngs sg ng b4 z4 z4' hR2 hR1 hy hy3 s3 he b2 z2 s2 b1 z1 lg
    refine ⟨L, rfl, ⟨_, .of hL6⟩, for_list (K := K) (a := L) (xs := nsL) (fun i σ H' => ∃ y4 y5, σ = [some (.ref s0), some (.ref p), some (.str k), some (.ref e), y4, y5, none, none, none, none] ∧ Same H6 H')
      ⟨_, _, rfl, Same.refl _⟩ (fun i σ H' _ hP => ?_) (fun i x σ H7 ex hP => ?_) (fun σ H7 hP => ?_)⟩
    · obtain ⟨_, _, _, sm⟩ := hP
      exact .of (sm _ _ hL6)
    · obtain ⟨y4, y5, rfl, sm⟩ := hP
      obtain ⟨n, rfl, n0⟩ := nns x (List.mem_of_getElem? ex)
      refine ⟨fun σ' H' => ∃ v, σ' = [some (.ref s0), some (.ref p), some (.str k), some (.ref e), some (.int n), some v, none, none, none, none] ∧ Same H7 H' ∧ StV H' v (withR k n), ?_, fun σ' H8 hM => ?_⟩
      · refine ⟨_, rfl, rfl, _, rfl, ite2 (fun e1 => ?_) (fun e1 => ?_)⟩
        · have e1 := V.int.inj (of_decide_eq_true e1)
          refine ⟨_, rfl, Same.refl _, ?_⟩
          rw [e1, with0]
          rfl
        · have e1 : n ≠ 0 := fun z => e1 (decide_eq_true (by rw [z]))
          refine ⟨_, rfl, _, rfl, (by show 2 ≤ sizeLine; decide), fun t nt => ⟨_, rfl, same_upd nt, ?_⟩⟩
          rw [with_pos (by omega)]
          exact ⟨t, rfl, upd_same⟩
      · obtain ⟨v, rfl, s8, hv⟩ := hM
        have sm8 := sm.trans s8
        refine ⟨_, rfl, _, rfl, _, rfl, .ref e, v, k, itR rs, es, n, rfl, (he6.same sm8).dressE, ef, by omega, iok, kk, hv.dress, n0, fun H9 w9 s9 h9 => ?_⟩
        refine ⟨_, rfl, _, rfl, .ref p, rs, v, _, rfl, ((hR6.same sm8).same s9).dress, ok, (hv.same s9).dress, ok_with kk n0, fun H10 w10 s10 h10 => ?_⟩
        rw [stF n n0] at h10
        exact ⟨_, _, dp_o (h9.same s10), dp_o h10, shaped_o (okF n n0), shaped_o (okF n n0), _, rfl, iteN (by rw [eqv_o, decide_eq_true rfl]; rfl) ⟨_, _, rfl, sm8.trans (s9.trans s10)⟩⟩
    · obtain ⟨y4, y5, rfl, sm⟩ := hP
      obtain ⟨xs7, hx7, hp7⟩ := he6.same sm
      have lx7 : xs7.length = es.length := Paired.len hp7
      refine ⟨_, rfl, _, rfl, e, _, rfl, .inl (.of hx7), _, _, rfl, rfl, s0, _, rfl, z6.same sm, (by omega), wide8 (by omega) (by omega), fun H8 n b8 z8 n0 n1 => ?_⟩
      have hR8 := (hR6.same sm).butM (z6.same sm) b8
      have B8 : But s0 H H8 := B6.trans ((Same.but sm).trans b8)
      refine ⟨fun σ' H' => ∃ v, σ' = [some (.ref s0), some (.ref p), some (.str k), some (.ref e), some (.int n), some v, none, none, none, none] ∧ Same H8 H' ∧ StV H' v (withR k n), ?_, fun σ' H9 hM => ?_⟩
      · refine ⟨_, rfl, rfl, _, rfl, ite2 (fun e1 => ?_) (fun e1 => ?_)⟩
        · have e1 := V.int.inj (of_decide_eq_true e1)
          refine ⟨_, rfl, Same.refl _, ?_⟩
          rw [e1, with0]
          rfl
        · have e1 : n ≠ 0 := fun z => e1 (decide_eq_true (by rw [z]))
          refine ⟨_, rfl, _, rfl, (by show 2 ≤ sizeLine; decide), fun t nt => ⟨_, rfl, same_upd nt, ?_⟩⟩
          rw [with_pos (by omega)]
          exact ⟨t, rfl, upd_same⟩
      obtain ⟨v, rfl, s9, hv⟩ := hM
      have hR9 := hR8.same s9
      have B9 := B8.trans (Same.but s9)
      have z9 := z8.same s9
      clear B8 hR8 z8 b8 hx7 hp7 sm z6 B6 hR6 he6 hL6
      refine ⟨_, rfl, _, rfl, _, rfl, .ref p, rs, v, _, rfl, hR9.dress, ok, hv.dress, ok_with kk n0, fun H10 w10 s10 h10 => ?_⟩
      rw [stF n n0] at h10
      have hR10 := hR9.same s10
      refine ⟨_, rfl, (by show 1 ≤ sizeLine; decide), fun l nl => ?_⟩
      have sl := same_upd (o := .lst [.str k]) nl
      refine ⟨.ref p, w10, l, rs, _, [k], rfl, (hR10.same sl).dress, ok, l4, (h10.same sl).dress, okF n n0, .inl upd_same, ⟨(by show 0 < 1; decide), (by show 1 ≤ 12; decide), (fun x hx => by rw [List.mem_singleton.mp hx]; exact kk), fun i x y hx hy => by simp at hy⟩, fun H11 b s11 nb hb => ?_⟩
      have hR11 := (hR10.same sl).same s11
      have hv11 := ((hv.same s10).same sl).same s11
      have s911 := s10.trans (sl.trans s11)
      obtain ⟨n', rfl⟩ : ∃ n' : Nat, n = n' := ⟨n.toNat, by omega⟩
      have tall := try_all (items := itR rs) (k := k) (n := n') (goal := fxR (itR rs) k (n' : Int)) rfl
      clear hR10 hR9 h10 sl s11 s10 hv
      refine ⟨Nat.zero_le _, fun d nd => ?_⟩
      have sd := same_upd (o := .lst []) nd
      obtain ⟨H12, eH⟩ : ∃ H12, upd H11 d (.lst []) = H12 := ⟨_, rfl⟩
      have hd12 : H12 d = some (.lst []) := by rw [← eH]; exact upd_same
      rw [eH] at sd ⊢
      refine ⟨_, rfl, _, rfl, p, rs, rfl, hR11.same sd, by omega, fun H13 s13 => ?_⟩
      have cm : CMulW 2 (lenR rs) := mul2 (by omega) l4
      refine ⟨_, _, rfl, rfl, cm, _, _, rfl, rfl, _, _, rfl, rfl, _, rfl, by omega, by omega, for_range (lo := 0) (n := _) (fun i σ H' => ∃ y8 y9, σ = [some (.ref s0), some (.ref p), some (.str k), some (.ref e), some (.int n'), some v, some (.ref b), some (.ref d), y8, y9] ∧ Same H11 H' ∧ StL H' d (tryR (itR rs) (fxR (itR rs) k (n' : Int)) k i))
        ⟨_, _, rfl, sd.trans s13, [], s13 _ _ hd12, .nil⟩ (fun i σ H14 hi hP => ?_) (fun σ H14 hP => ?_)⟩
      · obtain ⟨y8, y9, rfl, sm, ds, hds, hpd⟩ := hP
        have hi : i < (((n' : Nat) : Int) + 2 * lenR rs + 2).toNat := hi
        have hR14 := hR11.same sm
        have hv14 := hv11.same sm
        refine ⟨fun σ' H' => ∃ u, σ' = [some (.ref s0), some (.ref p), some (.str k), some (.ref e), some (.int n'), some v, some (.ref b), some (.ref d), some (.int (0 + (i : Int))), some u] ∧ Same H14 H' ∧ StV H' u (withR k (i : Int)), ?_, fun σ' H15 hM => ?_⟩
        · refine ⟨_, rfl, rfl, _, rfl, ite2 (fun e1 => ?_) (fun e1 => ?_)⟩
          · have e1 : (0 : Int) + (i : Int) = 0 := V.int.inj (of_decide_eq_true e1)
            refine ⟨_, rfl, Same.refl _, ?_⟩
            rw [show ((i : Nat) : Int) = 0 by omega, with0]
            rfl
          · have e1 : (0 : Int) + (i : Int) ≠ 0 := fun z => e1 (decide_eq_true (by rw [z]))
            refine ⟨_, rfl, _, rfl, (by show 2 ≤ sizeLine; decide), fun t nt => ⟨_, rfl, same_upd nt, ?_⟩⟩
            rw [with_pos (by omega), Int.zero_add]
            exact ⟨t, rfl, upd_same⟩
        obtain ⟨u, rfl, s15, hu⟩ := hM
        refine ⟨_, rfl, _, rfl, .ref p, rs, u, _, rfl, (hR14.same s15).dress, ok, hu.dress, ok_with kk (by omega), fun H16 w16 s16 h16 => ?_⟩
        have s416 := s15.trans s16
        refine ⟨_, rfl, _, rfl, .ref p, rs, v, _, rfl, (hR14.same s416).dress, ok, (hv14.same s416).dress, ok_with kk n0, fun H17 w17 s17 h17 => ?_⟩
        rw [stF _ (by omega)] at h16 h17
        refine ⟨_, _, dp_o (h16.same s17), dp_o h17, shaped_o (okF _ (by omega)), shaped_o (okF _ n0), _, rfl, ?_⟩
        rw [eqv_o]
        have s417 := s416.trans s17
        have hd17 := s417 _ _ hds
        have ld : ds.length ≤ i := by
          rw [Paired.len hpd]
          exact try_len ..
        by_cases c : fxR (itR rs) k (i : Int) = fxR (itR rs) k (n' : Int)
        · refine iteP (decide_eq_true c) ⟨_, rfl, .inl ⟨rfl, _, SqL.of hd17⟩, _, rfl, d, _, _, rfl, rfl, hd17, small (by omega), ?_⟩
          refine ⟨_, _, rfl, same_grow nd (sm.trans s417), _, upd_same, ?_⟩
          rw [try_succ, if_pos (show stI (itR rs) (withR k (i : Int)) = _ from c)]
          exact Paired.app (sts_grow hd17 (sts_same s417 hpd)) (.cons ((hu.same (s16.trans s17)).growE hd17) .nil)
        · refine iteN (decide_eq_false c) ⟨_, _, rfl, sm.trans s417, ds, hd17, ?_⟩
          rw [try_succ, if_neg (show ¬ stI (itR rs) (withR k (i : Int)) = _ from c), List.append_nil]
          exact sts_same s417 hpd
      · obtain ⟨y8, y9, rfl, sm, hd⟩ := hP
        have eN : (((n' : Nat) : Int) + 2 * lenR rs + 2).toNat = 1 + (itR rs).length + (n' + (itR rs).length + 1) := by omega
        have hd : StL H14 d (tryR (itR rs) (fxR (itR rs) k (n' : Int)) k (((n' : Nat) : Int) + 2 * lenR rs + 2).toNat) := hd
        rw [eN, tall] at hd
        have oks : ∀ x ∈ sbR (itR rs) (fxR (itR rs) k (n' : Int)) [k], StOk x := by
          rw [← tall]
          exact try_ok kk
        refine ⟨_, rfl, _, rfl, _, _, dp_stsC (hb.same sm), dp_stsC hd, shaped_stsC oks, shaped_stsC oks, ?_⟩
        rw [PyData.eqv, eqv_stsN]
        exact q _ (B9.trans (Same.but (s911.trans sm))) (z9.same (s911.trans sm))
end
end UP

set_option Elab.async false
set_option linter.all false
set_option maxRecDepth 100000
set_option maxHeartbeats 4000000
set_option pp.maxSteps 600
namespace UP
open PySem PySem.Spec PyProof.Rows L2
theorem p20 : (10 : Int) ^ ((20 : Int).toNat) = 100000000000000000000 := by decide +kernel
theorem len_few {g : Int} : ∀ l : List Run, (∀ r ∈ l, r.2 ≤ g) → lenR l ≤ g * (l.length : Int)
  | [], _ => by
    show (0 : Int) ≤ g * 0
    rw [Int.mul_zero]
    exact Int.le_refl _
  | r :: t, h => by
    have h1 := h r (List.mem_cons_self ..)
    have h2 := len_few t fun x hx => h x (List.mem_cons_of_mem _ hx)
    rw [lenR_cons, List.length_cons, Int.natCast_add, Int.mul_add]
    have e : g * ((1 : Nat) : Int) = g := Int.mul_one _
    omega
theorem it_abc {rs : List Run} (h : ∀ r ∈ rs, r.1 ∈ abcL) : ∀ x ∈ itR rs, x ∈ abcL := fun x hx => by
  obtain ⟨r, hr, hk⟩ := List.mem_flatMap.mp hx
  rw [List.eq_of_mem_replicate hk]
  exact h r hr
section
variable {P : Program} {w : World} {K : PySem.W.Frag} {mg : Str → Option Value} {base : Heap}
/-! _law_holds: slots 0:stream 1:scale 2:one 3:other 4:state -/
abbrev s_law_holds : Stmt := topS 82
theorem sc_law_holds : FnScope ["stream", "scale", "one", "other", "state"] ["stream"] (defScope s_law_holds) := ⟨rfl, rfl, rfl, by decide +kernel, rfl, by decide +kernel, by decide +kernel⟩
def sp_law_holds : Sp := fun vs H Q _ => ∃ (st : Addr), vs = [.ref st] ∧ SM H st ∧ ∀ H', But st H H' → Q (.bl true) H'
theorem ok_law_holds (D : Df K mg "_law_holds" s_law_holds) (G_law_draw : Has P w K mg base 1 "_law_draw" ["stream", "many"] sp_law_draw) (G_law_sequence : Has P w K mg base 2 "_law_sequence" ["stream", "most", "scale"] sp_law_sequence) (G_law_state : Has P w K mg base 2 "_law_state" ["stream", "scale"] sp_law_state)
    (G_law_effects_hold : Has P w K mg base 9 "_law_effects_hold" ["stream", "sequence"] sp_law_effects_hold) (G_law_difference_holds : Has P w K mg base 9 "_law_difference_holds" ["one", "other"] sp_law_difference_holds)
    (G_law_rounds_hold : Has P w K mg base 10 "_law_rounds_hold" ["stream", "sequence", "state"] sp_law_rounds_hold) (G_law_growth_holds : Has P w K mg base 9 "_law_growth_holds" ["sequence", "state"] sp_law_growth_holds) : Has P w K mg base 11 "_law_holds" ["stream"] sp_law_holds := by
  refine has_of D sc_law_holds (fun _ _ _ _ _ _ us hl => match us, hl with | [_], _ => rfl) (fun vs H Q E h => ?_) (fun f cdv A₀ outer s₀ H vs Q E hr h => ?_)
  · obtain ⟨_, rfl, _⟩ := h
    rfl
  · obtain ⟨st, rfl, z0, q⟩ := h
    refine ⟨_, (C8.pss_cut (ps_set (i := 1) sc_law_holds.nd rfl (by first | exact Or.inl rfl | exact Or.inr rfl) (pe_ix ix_list (pe_lst (pa_cons pe_int (pa_cons pe_int pa_nil))) (pe_callH G_law_draw (hr.mono (by omega)) (by rfl) (pa_cons (pv 0) (pa_cons pe_int pa_nil))) (fun _ _ => rfl)))
    (pss_cons (ps_set (i := 2) sc_law_holds.nd rfl (by first | exact Or.inl rfl | exact Or.inr rfl) (pe_callH G_law_sequence (hr.mono (by omega)) (by rfl) (pa_cons (pv 0) (pa_cons pe_int (pa_cons (pv 1) pa_nil)))))
    (pss_cons (ps_set (i := 3) sc_law_holds.nd rfl (by first | exact Or.inl rfl | exact Or.inr rfl) (pe_callH G_law_sequence (hr.mono (by omega)) (by rfl) (pa_cons (pv 0) (pa_cons pe_int (pa_cons (pv 1) pa_nil)))))
    (pss_cons (ps_if (PW.pt (pw_or (pt_not (pt_val (pe_callH G_law_effects_hold (hr.mono (by omega)) (by rfl) (pa_cons (pv 0) (pa_cons (pv 2) pa_nil))))) (pw_or1 (pt_not (pt_val (pe_callH G_law_difference_holds (hr.mono (by omega)) (by rfl) (pa_cons (pv 2) (pa_cons (pv 3) pa_nil)))))))) (pss_one (ps_ret pe_bl)) pss_nil)
    (pss_cons (ps_if (pt_not (pt_val (pe_callH G_law_difference_holds (hr.mono (by omega)) (by rfl) (pa_cons (pv 2) (pa_cons (pv 2) pa_nil))))) (pss_one (ps_ret pe_bl)) pss_nil)
    (C8.pss_cut (ps_set (i := 4) sc_law_holds.nd rfl (by first | exact Or.inl rfl | exact Or.inr rfl) (pe_callH G_law_state (hr.mono (by omega)) (by rfl) (pa_cons (pv 0) (pa_cons (pe_ix ix_list (pe_lst (pa_cons pe_int (pa_cons (pe_op op_pow pe_int pe_int) pa_nil))) (pe_callH G_law_draw (hr.mono (by omega)) (by rfl) (pa_cons (pv 0) (pa_cons pe_int pa_nil))) (fun _ _ => rfl)) pa_nil))))
    (pss_one (ps_ret (pe_and (pe_callH G_law_rounds_hold (hr.mono (by omega)) (by rfl) (pa_cons (pv 0) (pa_cons (pv 2) (pa_cons (pv 4) pa_nil)))) (pe_one (pe_callH G_law_growth_holds (hr.mono (by omega)) (by rfl) (pa_cons (pv 2) (pa_cons (pv 4) pa_nil))))))))))))), ?_⟩
    refine ⟨fun σ' H' => ∃ g : Int, σ' = [some (.ref st), some (.int g), none, none, none] ∧ 1 ≤ g ∧ g ≤ 12 ∧ But st H H' ∧ SM H' st, ?_, fun σ' H1 hM => ?_⟩
    · refine ⟨(by show 2 ≤ sizeLine; decide), fun l nl => ?_⟩
      refine ⟨_, rfl, st, 2, rfl, z0.same (same_upd nl), by decide, by decide, fun H5 r5 b5 z5 r50 r51 => ?_⟩
      have hl := b5 _ _ (SM.ne z0 nl) upd_same
      have bb : But st _ H5 := (Same.but (same_upd nl)).trans b5
      rcases (show r5 = 0 ∨ r5 = 1 by omega) with e | e
      · subst e
        exact ⟨l, _, 0, _, rfl, rfl, .of hl, rfl, _, rfl, by decide, by decide, bb, z5⟩
      · subst e
        exact ⟨l, _, 1, _, rfl, rfl, .of hl, rfl, _, rfl, by decide, by decide, bb, z5⟩
    obtain ⟨g, rfl, g1, g12, b1, z1⟩ := hM
    refine ⟨_, rfl, _, rfl, st, 8, g, rfl, z1, by decide, by decide, g1, by omega, fun H2 p rs b2 z2 hR2 okr l8 kr => ?_⟩
    refine ⟨_, rfl, _, rfl, st, 8, g, rfl, z2, by decide, by decide, g1, by omega, fun H3 c cs b3 z3 hC3 okc m8 kc => ?_⟩
    have hR3 := hR2.butM z2 b3
    have B3 := b1.trans (b2.trans b3)
    have lr : lenR rs ≤ 400 := by
      have h1 := len_few rs fun r hr => (kr r hr).1
      have h2 : g * (rs.length : Int) ≤ 12 * 8 := Int.mul_le_mul g12 l8 (by omega) (by decide)
      omega
    have lc : lenR cs ≤ 400 := by
      have h1 := len_few cs fun r hr => (kc r hr).1
      have h2 : g * (cs.length : Int) ≤ 12 * 8 := Int.mul_le_mul g12 m8 (by omega) (by decide)
      omega
    have ir := it_abc fun r hr => (kr r hr).2
    have ic := it_abc fun r hr => (kc r hr).2
    have few : ∀ A B : List Str, (∀ x ∈ A, x ∈ abcL) → (∀ x ∈ B, x ∈ abcL) → (setS (A ++ B)).length ≤ 20 := fun A B hA hB => let_few fun x hx => (List.mem_append.mp hx).elim (hA x) (hB x)
    clear b1 b2 b3 hR2
    refine ⟨_, rfl, _, rfl, st, p, rs, rfl, z3, hR3, okr, lr, fun H4 b4 z4 => ⟨_, rfl, iteN rfl ?_⟩⟩
    have hR4 := hR3.butM z3 b4
    have hC4 := hC3.butM z3 b4
    refine ⟨_, rfl, _, rfl, p, c, rs, cs, rfl, hR4, okr, lr, hC4, okc, lc, few _ _ ir ic, fun H5 s5 => ⟨_, rfl, iteN rfl ?_⟩⟩
    refine ⟨_, rfl, _, rfl, p, p, rs, rs, rfl, hR4.same s5, okr, lr, hR4.same s5, okr, lr, few _ _ ir ir, fun H6 s6 => ⟨_, rfl, iteN rfl ?_⟩⟩
    have s46 := s5.trans s6
    have hR6 := hR4.same s46
    have z6 := z4.same s46
    have B6 := B3.trans (b4.trans (Same.but s46))
    refine ⟨fun σ' H' => ∃ u s, σ' = [some (.ref st), some (.int g), some (.ref p), some (.ref c), some u] ∧ But st H6 H' ∧ SM H' st ∧ StV H' u s ∧ StOk s ∧ ∀ r, s = some r → r.2 ≤ 100000000000000000000, ?_, fun σ' H7 hM => ?_⟩
    · refine ⟨_, rfl, _, _, rfl, rfl, ⟨by decide, by decide, by decide⟩, (by show 2 ≤ sizeLine; decide), fun l nl => ?_⟩
      refine ⟨_, rfl, st, 2, rfl, z6.same (same_upd nl), by decide, by decide, fun H7 r5 b7 z7 r50 r51 => ?_⟩
      have hl := b7 _ _ (SM.ne z6 nl) upd_same
      have bb : But st _ H7 := (Same.but (same_upd nl)).trans b7
      rcases (show r5 = 0 ∨ r5 = 1 by omega) with e | e
      · subst e
        refine ⟨l, _, 0, _, rfl, rfl, .of hl, rfl, st, 9, rfl, z7, by decide, by decide, fun H8 u s b8 z8 hu so bd => ?_⟩
        exact ⟨u, s, rfl, bb.trans b8, z8, hu, so, fun r e => by have := bd r e; omega⟩
      · subst e
        refine ⟨l, _, 1, _, rfl, rfl, .of hl, rfl, st, (10 : Int) ^ ((20 : Int).toNat), rfl, z7, (by rw [p20]; decide), (by rw [p20]; decide), fun H8 u s b8 z8 hu so bd => ?_⟩
        rw [p20] at bd
        exact ⟨u, s, rfl, bb.trans b8, z8, hu, so, bd⟩
    obtain ⟨u, s, rfl, b7, z7, hu, so, bd⟩ := hM
    have hR7 := hR6.butM z6 b7
    refine ⟨_, rfl, _, rfl, _, rfl, st, p, u, rs, s, rfl, z7, hR7, okr, lr, hu, so, bd, fun H8 b8 z8 => ⟨_, rfl, iteP rfl ?_⟩⟩
    refine ⟨_, rfl, _, rfl, p, u, rs, s, rfl, hR7.butM z7 b8, okr, lr, hu.butM z7 b8, so, bd, fun H9 s9 => ?_⟩
    exact q _ (B6.trans (b7.trans (b8.trans (Same.but s9))))
end
end UP

set_option Elab.async false
set_option linter.all false
set_option maxRecDepth 100000
set_option maxHeartbeats 4000000
namespace UP
open PySem PySem.Spec PyProof.Rows L2
theorem cut_mem {xs : List V} {lo hi : Option Int} {x : V} (h : x ∈ cutV xs lo hi) : x ∈ xs := by
  unfold cutV at h
  exact List.mem_of_mem_drop (List.mem_of_mem_take h)
theorem but_at {st b : Addr} {H H1 H' : Hp} {o : HO} (s : Same H H1) (n : H st = none) (h : But st H1 H') (e : H b = some o) : H' b = some o :=
  h b o (ne_of_none e n) (s b o e)
section
variable {P : Program} {w : World} {K : PySem.W.Frag} {mg : Str → Option Value} {base : Heap}
/-! law: slots 0:script 1:cells 2:k 3:cell -/
abbrev s_law : Stmt := topS 83
theorem sc_law : FnScope ["script", "cells", "k", "cell"] ["script"] (defScope s_law) := ⟨rfl, rfl, rfl, by decide +kernel, rfl, by decide +kernel, by decide +kernel⟩
def sp_law (K : PySem.W.Frag) : Sp := fun vs H Q _ => ∃ (a : Addr) (ns : List Int), vs = [.ref a] ∧ SqL K H a (ns.map V.int) ∧ ns.length ≤ 63 ∧ ∀ H', Q (.bl true) H'
theorem fn_law {f : Addr} {fd : FuncData} (F : Fun K "law" "law" s_law f fd) (T : Tx mg)
    (G_law_stream : Has P w K mg base 1 "_law_stream" ["cell", "k"] sp_law_stream) (G_law_holds : Has P w K mg base 11 "_law_holds" ["stream"] sp_law_holds) :
    FnC P w K mg base f fd ["script"] (sp_law K) := by
  refine fnC_of F sc_law (fun vs H Q E h => ?_) (fun cdv outer s H vs Q E hr h => ?_)
  · obtain ⟨_, _, rfl, _⟩ := h
    rfl
  · obtain ⟨a, ns, rfl, hS, l63, q⟩ := h
    have hr := Room.deeper (show Room (12 + 1) callerA from ⟨rfl, by decide, by decide⟩) (envOfC "law" (defScope s_law) s.heap.objs.size f cdv)
    refine ⟨_, (pss_cons (ps_set (i := 1) sc_law.nd rfl (by first | exact Or.inl rfl | exact Or.inr rfl) (pe_slice sl_list (pe_op op_cat (pe_slice sl_list (pv 0) po_none (po_some pe_int)) (pe_lst (pa_cons pe_int pa_nil))) po_none (po_some (pe_callB (call_max2 rfl) (by rfl) T.n_max (by decide +kernel) (pa_cons pe_int (pa_cons (pe_callB (call_min2 rfl) (by rfl) T.n_min (by decide +kernel) (pa_cons pe_int (pa_cons (pe_callB call_len_seq (by rfl) T.n_len (by decide +kernel) (pa_cons (pv 0) pa_nil)) pa_nil))) pa_nil))))))
    (pss_one (ps_ret (pe_cmpR (op_eqD hr.units) (pe_lc (own := [("k", 2), ("cell", 3)]) rfl sc_law.nd (pi_enum (by rfl) T.n_enumerate (pa_cons (pv 1) pa_nil)) (blkOk_by (N := ["script", "cells", "k", "cell"]) (sc := defScope s_law) (by decide +kernel)) (fun _ _ _ _ _ => (pg_tupK (K := K) (n := 2) rfl rfl (pgs_cons (pg_name (i := 2) sc_law.nd rfl (by first | exact Or.inl rfl | exact Or.inr rfl)) (pgs_cons (pg_name (i := 3) sc_law.nd rfl (by first | exact Or.inl rfl | exact Or.inr rfl)) pgs_nil)))) (fun _ _ _ _ _ => pts_one (pt_not (pt_val (pe_callH G_law_holds (hr.mono (by omega)) (by rfl) (pa_cons (pe_callH G_law_stream (hr.mono (by omega)) (by rfl) (pa_cons (pv 3) (pa_cons (pv 2) pa_nil))) pa_nil))))) (fun _ _ _ _ _ => (pv 2))) (pe_lst pa_nil) (nomark _))))), ?_⟩
    refine ⟨_, rfl, 5, rfl, a, _, rfl, hS, fun c nc => ?_⟩
    have sc := same_upd (o := .lst (cutV (ns.map V.int) none (some 5))) nc
    refine ⟨(by show 1 ≤ sizeLine; decide), fun z nz => ?_⟩
    have sz := same_upd (o := .lst [.int 0]) nz
    have l1 := cutV_length (ns.map V.int) none (some 5)
    rw [List.length_map] at l1
    refine ⟨c, z, _, _, rfl, rfl, sz _ _ upd_same, upd_same, small (by omega), fun p np => ?_⟩
    have sp := same_upd (o := .lst (cutV (ns.map V.int) none (some 5) ++ [.int 0])) np
    refine ⟨_, rfl, a, _, rfl, .inl ((sc.trans (sz.trans sp)).seq hS), _, _, rfl, _, _, rfl, _, rfl, p, _, rfl, .of upd_same, fun d nd => ?_⟩
    generalize hcs : cutV (cutV (ns.map V.int) none (some 5) ++ [.int 0]) none (some _) = cs at *
    have len : cs.length ≤ 64 := by
      rw [← hcs]
      refine Nat.le_trans (cutV_length _ _ _) ?_
      rw [List.length_append, List.length_singleton]
      omega
    have itg : ∀ x ∈ cs, ∃ n, x = V.int n := by
      intro x hx
      rw [← hcs] at hx
      have := cut_mem hx
      rcases List.mem_append.mp this with h | h
      · obtain ⟨n, _, e⟩ := List.mem_map.mp (cut_mem h)
        exact ⟨n, e.symm⟩
      · exact ⟨0, List.mem_singleton.mp h⟩
    clear hcs
    refine ⟨_, rfl, d, cs, rfl, .of upd_same, fun L nL => lc_gen (J := Ite K d) (n := cs.length) (fun i H' => H' d = some (.lst cs) ∧ H' L = some (.lst [])) ⟨same_upd nL _ _ upd_same, upd_same⟩ (fun i H' hi hP => ⟨cs, _, .of hP.1, List.getElem?_eq_getElem hi⟩) (fun H' hP => ⟨cs, .of hP.1, Nat.le_refl _⟩) (fun i x H1 H2 hi hP y => ?_) (fun H1 hP => ?_)⟩
    · obtain ⟨hd, hL⟩ := hP
      obtain ⟨t, y, rfl, nt, rfl, hy⟩ := y
      have hy := hy cs (.of hd)
      obtain ⟨c0, rfl⟩ := itg y (List.mem_of_getElem? hy)
      have st := same_upd (o := .tup [.int (i : Nat), .int c0]) nt
      refine ⟨t, _, rfl, .of upd_same, rfl, _, _, rfl, _, _, rfl, rfl, rfl, ?_⟩
      refine ⟨_, rfl, _, rfl, c0, i, rfl, by omega, fun H3 p3 s3 n3 z3 => ?_⟩
      refine ⟨p3, rfl, z3, fun H4 b4 => ?_⟩
      refine ⟨true, rfl, iteF ⟨but_at s3 n3 b4 (st _ _ hd), but_at s3 n3 b4 (st _ _ hL)⟩⟩
    obtain ⟨hd, hL⟩ := hP
    refine ⟨Nat.zero_le _, fun e ne => ⟨.list [], .list [], .lst (.of (same_upd ne _ _ hL)) .nil, .lst (.of upd_same) .nil, by decide, by decide, ?_⟩⟩
    rw [show PyData.eqv (.list []) (.list []) = true by decide]
    exact q _
end
end UP

set_option Elab.async false
set_option linter.all false
set_option maxRecDepth 100000
set_option maxHeartbeats 4000000
namespace UP
open PySem PySem.Spec PyProof.Rows L2
section
variable {K : PySem.W.Frag} {h : Heap} {mg : Str → Option Value}
theorem df_mk {x : Str} {st : Stmt} {f : Addr} {od an : Option Addr} {sl : Array (Option Value)} {oc kV dc pm cd ct : Value} (X : K.In h) (G : h.Ns mainGlobals mg) (a : PySem.W.nsIn K mainGlobals x = some (some (.ref f)))
    (l : K.lookup f = some ⟨oc, od, .func (PySem.W.fnOf x x (defArgs st) (defBody st) (defScope st) .none kV dc pm an cd ct), sl⟩) (c : PySem.W.codeIn K cd x = true) (k : PySem.W.keepIn K (.ref f) = true) : Df K mg x st :=
  ⟨f, _, PySem.W.mg_of X G a, fun_mk l c k⟩
theorem dfd_mk {x : Str} {st : Stmt} {f T : Addr} {od an od2 : Option Addr} {sl sl2 : Array (Option Value)} {n2 : Nat} {oc kV dc pm cd ct oc2 : Value} (X : K.In h) (G : h.Ns mainGlobals mg) (a : PySem.W.nsIn K mainGlobals x = some (some (.ref f)))
    (l : K.lookup f = some ⟨oc, od, .func (PySem.W.fnOf x x (defArgs st) (defBody st) (defScope st) (.ref T) kV dc pm an cd ct), sl⟩) (t : K.lookup T = some ⟨oc2, od2, .seq #[.none] n2, sl2⟩) (c : PySem.W.codeIn K cd x = true) (k : PySem.W.keepIn K (.ref f) = true) : DfD K mg x st [.non] :=
  ⟨f, _, PySem.W.mg_of X G a, ⟨⟨oc, od, _, kV, dc, pm, an, cd, ct, sl, rfl, l, c, .inr ⟨(by intro z; cases z), T, _, [.none], n2, rfl, t, rfl, .cons rfl .nil⟩, .inl rfl⟩, k⟩⟩
theorem cst_mk {x : Str} {i : Int} {t : Tok} (X : K.In h) (G : h.Ns mainGlobals mg) (a : PySem.W.nsIn K mainGlobals x = some (some (.int i t))) : ∃ t, mg x = some (.int i t) := ⟨t, PySem.W.mg_of X G a⟩
theorem cst_mkS {x : Str} {i : Str} {t : Tok} (X : K.In h) (G : h.Ns mainGlobals mg) (a : PySem.W.nsIn K mainGlobals x = some (some (.str i t))) : ∃ t, mg x = some (.str i t) := ⟨t, PySem.W.mg_of X G a⟩
theorem ex_mk {x : Str} {D : Addr} (X : K.In h) (G : h.Ns mainGlobals mg) (a : PySem.W.nsIn K mainGlobals x = some (some (.ref D))) (c : PySem.W.excIn K D [.type "ValueError", .type "Exception", .type "BaseException", .type "object"] "ValueError.__new__" = true) (k : PySem.W.keepIn K (.ref D) = true) (bs : PySem.W.subIn K (.ref D) (.type "BaseException") = some true) (t : PySem.W.typeIn K (.ref D) = some (.type "type")) (m : PySem.W.exmOne K (.ref D) (.ref D) = some true) : ∃ C, Ex K mg x C := ⟨D, PySem.W.mg_of X G a, c, k, bs, t, m⟩
end
theorem dfdi_mk {K : PySem.W.Frag} {h : Heap} {mg : Str → Option Value} {i : Int} {tk : Tok} {x : Str} {st : Stmt} {f T : Addr} {od an od2 : Option Addr} {sl sl2 : Array (Option Value)} {n2 : Nat} {oc kV dc pm cd ct oc2 : Value} (X : K.In h) (G : h.Ns mainGlobals mg) (a : PySem.W.nsIn K mainGlobals x = some (some (.ref f)))
    (l : K.lookup f = some ⟨oc, od, .func (PySem.W.fnOf x x (defArgs st) (defBody st) (defScope st) (.ref T) kV dc pm an cd ct), sl⟩) (t : K.lookup T = some ⟨oc2, od2, .seq #[.int i tk] n2, sl2⟩) (c : PySem.W.codeIn K cd x = true) (k : PySem.W.keepIn K (.ref f) = true) : DfD K mg x st [.int i] :=
  ⟨f, _, PySem.W.mg_of X G a, ⟨⟨oc, od, _, kV, dc, pm, an, cd, ct, sl, rfl, l, c, .inr ⟨(by intro z; cases z), T, _, [.int i tk], n2, rfl, t, rfl, .cons ⟨tk, rfl⟩ .nil⟩, .inl rfl⟩, k⟩⟩
/-- all that the top has written -/
structure Top (K : PySem.W.Frag) (mg : Str → Option Value) : Prop where
  T : Tx mg
  d_is_whole : Df K mg "is_whole" s_is_whole
  d_is_within : Df K mg "is_within" s_is_within
  d_is_listed : Df K mg "is_listed" s_is_listed
  d_is_couple : Df K mg "is_couple" s_is_couple
  d_is_kind : Df K mg "is_kind" s_is_kind
  d_is_kinds : Df K mg "is_kinds" s_is_kinds
  d_is_run : Df K mg "is_run" s_is_run
  d_is_sequence : Df K mg "is_sequence" s_is_sequence
  d_is_state : Df K mg "is_state" s_is_state
  d_checked_runs : Df K mg "checked_runs" s_checked_runs
  d_checked_short_runs : Df K mg "checked_short_runs" s_checked_short_runs
  d_check_kind : Df K mg "check_kind" s_check_kind
  d_check_kinds : Df K mg "check_kinds" s_check_kinds
  d_checked_state : Df K mg "checked_state" s_checked_state
  d_length_of : Df K mg "length_of" s_length_of
  d_counts_of : Df K mg "counts_of" s_counts_of
  d_items_of : Df K mg "items_of" s_items_of
  d_waiting_number : Df K mg "waiting_number" s_waiting_number
  d_state_with : Df K mg "state_with" s_state_with
  d_state_after_run : Df K mg "state_after_run" s_state_after_run
  d_state_after_runs : Df K mg "state_after_runs" s_state_after_runs
  d_state_after : DfD K mg "state_after" s_state_after [.non]
  d_growth_in : Df K mg "growth_in" s_growth_in
  d_fall_of : Df K mg "fall_of" s_fall_of
  d_falling_rounds : Df K mg "falling_rounds" s_falling_rounds
  d_fallen : Df K mg "fallen" s_fallen
  d_grows_for_good : Df K mg "grows_for_good" s_grows_for_good
  d_course_of : DfD K mg "course_of" s_course_of [.int 1000000000000000000000000000000]
  d_continued : Df K mg "continued" s_continued
  d_adds_growth : Df K mg "adds_growth" s_adds_growth
  d_after_rounds : DfD K mg "after_rounds" s_after_rounds [.non]
  d_growth_of : Df K mg "growth_of" s_growth_of
  d_return_of : DfD K mg "return_of" s_return_of [.non]
  d_growing_from : DfD K mg "growing_from" s_growing_from [.non]
  d_ending_from : Df K mg "ending_from" s_ending_from
  d_endings_of : Df K mg "endings_of" s_endings_of
  d_shift_of : Df K mg "shift_of" s_shift_of
  d_effects_up_to : Df K mg "effects_up_to" s_effects_up_to
  d_other_kind : Df K mg "other_kind" s_other_kind
  d_three_letters : Df K mg "three_letters" s_three_letters
  d_first_difference : Df K mg "first_difference" s_first_difference
  d_is_effects : Df K mg "is_effects" s_is_effects
  d_is_state_of : Df K mg "is_state_of" s_is_state_of
  d_effect_of : Df K mg "effect_of" s_effect_of
  d_effect_on : Df K mg "effect_on" s_effect_on
  d_have_same_effect : Df K mg "have_same_effect" s_have_same_effect
  d_state_that_differs : Df K mg "state_that_differs" s_state_that_differs
  d_states_before : Df K mg "states_before" s_states_before
  d_law_stream : Df K mg "_law_stream" s_law_stream
  d_law_draw : Df K mg "_law_draw" s_law_draw
  d_law_sequence : Df K mg "_law_sequence" s_law_sequence
  d_law_state : Df K mg "_law_state" s_law_state
  d_law_length : Df K mg "_law_length" s_law_length
  d_law_effects_hold : Df K mg "_law_effects_hold" s_law_effects_hold
  d_law_difference_holds : Df K mg "_law_difference_holds" s_law_difference_holds
  d_law_same : Df K mg "_law_same" s_law_same
  d_law_rounds_hold : Df K mg "_law_rounds_hold" s_law_rounds_hold
  d_law_growth_holds : Df K mg "_law_growth_holds" s_law_growth_holds
  d_law_holds : Df K mg "_law_holds" s_law_holds
  x_SameEffect : ∃ C, Ex K mg "SameEffect" C
theorem Top.law {P : Program} {w : World} {K : PySem.W.Frag} {mg : Str → Option Value} (Y : Top K mg) {f : Addr} {fd : FuncData} (F : Fun K "law" "law" s_law f fd) (base : Heap) : FnC P w K mg base f fd ["script"] (sp_law K) := by
  have T := Y.T
  obtain ⟨CX_SameEffect, X_SameEffect⟩ := Y.x_SameEffect
  have g_is_whole := ok_is_whole (P := P) (w := w) (base := base) Y.d_is_whole T
  have g_is_within := ok_is_within (P := P) (w := w) (base := base) Y.d_is_within g_is_whole
  have g_is_listed := ok_is_listed (P := P) (w := w) (base := base) Y.d_is_listed T
  have g_is_couple := ok_is_couple (P := P) (w := w) (base := base) Y.d_is_couple T
  have g_is_kind := ok_is_kind (P := P) (w := w) (base := base) Y.d_is_kind T
  have g_is_run := ok_is_run (P := P) (w := w) (base := base) Y.d_is_run T g_is_couple g_is_kind g_is_within
  have g_is_state := ok_is_state (P := P) (w := w) (base := base) Y.d_is_state T g_is_couple g_is_kind g_is_whole
  have g_is_sequence := ok_is_sequence (P := P) (w := w) (base := base) Y.d_is_sequence T g_is_listed g_is_run
  have g_checked_runs := ok_checked_runs (P := P) (w := w) (base := base) Y.d_checked_runs T g_is_sequence
  have g_checked_state := ok_checked_state (P := P) (w := w) (base := base) Y.d_checked_state T g_is_state
  have g_length_of := ok_length_of (P := P) (w := w) (base := base) Y.d_length_of T
  have g_waiting_number := ok_waiting_number (P := P) (w := w) (base := base) Y.d_waiting_number
  have g_state_with := ok_state_with (P := P) (w := w) (base := base) Y.d_state_with
  have g_state_after_run := ok_state_after_run (P := P) (w := w) (base := base) Y.d_state_after_run g_waiting_number g_state_with
  have g_state_after_runs := ok_state_after_runs (P := P) (w := w) (base := base) Y.d_state_after_runs g_state_after_run
  have g_state_after := ok_state_after (P := P) (w := w) (base := base) Y.d_state_after g_checked_runs g_checked_state g_state_after_runs
  have g_checked_short_runs := ok_checked_short_runs (P := P) (w := w) (base := base) Y.d_checked_short_runs T g_checked_runs g_length_of
  have g_items_of := ok_items_of (P := P) (w := w) (base := base) Y.d_items_of T g_checked_short_runs
  have g_law_stream := ok_law_stream (P := P) (w := w) (base := base) Y.d_law_stream T
  have g_law_draw := ok_law_draw (P := P) (w := w) (base := base) Y.d_law_draw T
  have g_law_length := ok_law_length (P := P) (w := w) (base := base) Y.d_law_length T
  have g_is_kinds := ok_is_kinds (P := P) (w := w) (base := base) Y.d_is_kinds T g_is_listed g_is_kind
  have g_check_kinds := ok_check_kinds (P := P) (w := w) (base := base) Y.d_check_kinds g_is_kinds
  have g_counts_of := ok_counts_of (P := P) (w := w) (base := base) Y.d_counts_of T g_checked_runs
  have g_growth_in := ok_growth_in (P := P) (w := w) (base := base) Y.d_growth_in g_length_of g_counts_of
  have g_fall_of := ok_fall_of (P := P) (w := w) (base := base) Y.d_fall_of T g_length_of
  have g_falling_rounds := ok_falling_rounds (P := P) (w := w) (base := base) Y.d_falling_rounds g_length_of g_fall_of
  have g_fallen := ok_fallen (P := P) (w := w) (base := base) Y.d_fallen g_state_with g_fall_of
  have g_grows_for_good := ok_grows_for_good (P := P) (w := w) (base := base) Y.d_grows_for_good g_length_of
  have g_course_of := ok_course_of (P := P) (w := w) (base := base) Y.d_course_of T g_grows_for_good g_state_after_runs
  have g_continued := ok_continued (P := P) (w := w) (base := base) Y.d_continued T
  have g_adds_growth := ok_adds_growth (P := P) (w := w) (base := base) Y.d_adds_growth g_waiting_number
  have g_check_kind := ok_check_kind (P := P) (w := w) (base := base) Y.d_check_kind g_is_kind
  have g_ending_from := ok_ending_from (P := P) (w := w) (base := base) Y.d_ending_from T
  have g_endings_of := ok_endings_of (P := P) (w := w) (base := base) Y.d_endings_of T g_ending_from
  have g_shift_of := ok_shift_of (P := P) (w := w) (base := base) Y.d_shift_of T
  have g_effects_up_to := ok_effects_up_to (P := P) (w := w) (base := base) Y.d_effects_up_to T g_state_with
  have g_is_state_of := ok_is_state_of (P := P) (w := w) (base := base) Y.d_is_state_of g_is_state
  have g_is_effects := ok_is_effects (P := P) (w := w) (base := base) Y.d_is_effects T g_is_listed g_is_state g_is_state_of
  have g_effect_of := ok_effect_of (P := P) (w := w) (base := base) Y.d_effect_of T g_items_of g_check_kind g_endings_of g_effects_up_to g_shift_of g_state_with
  have g_effect_on := ok_effect_on (P := P) (w := w) (base := base) Y.d_effect_on T g_check_kind g_is_effects g_is_state_of g_waiting_number g_checked_state g_state_with
  have g_after_rounds := ok_after_rounds (P := P) (w := w) (base := base) Y.d_after_rounds T g_checked_short_runs g_is_within g_checked_state g_growth_in g_falling_rounds g_course_of g_fallen g_continued
  have g_return_of := ok_return_of (P := P) (w := w) (base := base) Y.d_return_of T g_checked_short_runs g_checked_state g_growth_in g_falling_rounds g_course_of g_fallen
  have g_growth_of := ok_growth_of (P := P) (w := w) (base := base) Y.d_growth_of g_checked_short_runs g_growth_in
  have g_growing_from := ok_growing_from (P := P) (w := w) (base := base) Y.d_growing_from T g_checked_short_runs g_checked_state g_growth_in g_falling_rounds g_course_of g_fallen g_adds_growth
  have g_states_before := ok_states_before (P := P) (w := w) (base := base) Y.d_states_before T g_items_of g_checked_state g_check_kinds g_endings_of g_effects_up_to g_shift_of
  have g_three_letters := ok_three_letters (P := P) (w := w) (base := base) Y.d_three_letters T
  have g_other_kind := ok_other_kind (P := P) (w := w) (base := base) Y.d_other_kind g_three_letters
  have g_first_difference := ok_first_difference (P := P) (w := w) (base := base) Y.d_first_difference T g_endings_of g_effects_up_to g_other_kind g_state_with
  have g_have_same_effect := ok_have_same_effect (P := P) (w := w) (base := base) Y.d_have_same_effect g_items_of g_first_difference
  have gX_state_that_differs := okX_state_that_differs (P := P) (w := w) (base := base) Y.d_state_that_differs X_SameEffect g_items_of g_first_difference
  have g_law_sequence := ok_law_sequence (P := P) (w := w) (base := base) Y.d_law_sequence T g_law_draw
  have g_law_state := ok_law_state (P := P) (w := w) (base := base) Y.d_law_state g_law_draw
  have g_law_same := ok_law_same (P := P) (w := w) (base := base) Y.d_law_same g_after_rounds
  have g_law_difference_holds := ok_law_difference_holds (P := P) (w := w) (base := base) Y.d_law_difference_holds X_SameEffect gX_state_that_differs g_have_same_effect g_state_after
  have g_law_rounds_hold := ok_law_rounds_hold (P := P) (w := w) (base := base) Y.d_law_rounds_hold g_law_draw g_after_rounds g_state_after g_return_of g_growth_of g_law_same
  have g_law_growth_holds := ok_law_growth_holds (P := P) (w := w) (base := base) Y.d_law_growth_holds T g_after_rounds g_return_of g_growing_from g_growth_of
  have g_law_effects_hold := ok_law_effects_hold (P := P) (w := w) (base := base) Y.d_law_effects_hold T g_law_draw g_law_length g_effect_of g_effect_on g_state_after g_states_before
  have g_law_holds := ok_law_holds (P := P) (w := w) (base := base) Y.d_law_holds g_law_draw g_law_sequence g_law_state g_law_effects_hold g_law_difference_holds g_law_rounds_hold g_law_growth_holds
  exact fn_law F T g_law_stream g_law_holds
theorem all_mk {P : Program} {w : World} {K : PySem.W.Frag} {h : Heap} {mg : Str → Option Value} {fa f : Addr} {od an : Option Addr} {sl : Array (Option Value)} {oc kV dc pm cd ct : Value} (X : K.In h) (G : h.Ns mainGlobals mg) (hfa : mg "law" = some (.ref fa)) (a : PySem.W.nsIn K mainGlobals "law" = some (some (.ref f)))
    (l : K.lookup f = some ⟨oc, od, .func (PySem.W.fnOf "law" "law" (defArgs s_law) (defBody s_law) (defScope s_law) .none kV dc pm an cd ct), sl⟩) (c : PySem.W.codeIn K cd "law" = true) (k : PySem.W.keepIn K (.ref f) = true) (Y : Top K mg) :
    ∃ fd : FuncData, (∀ (s : Shared) (v : Value), BindsTo s fd ⟨[v], []⟩ [("script", v)]) ∧ ∀ base : Heap, K.In base → base.Ns mainGlobals mg → FnC P w K mg base fa fd ["script"] (sp_law K) := by
  have e := hfa.symm.trans (PySem.W.mg_of X G a)
  cases e
  exact ⟨_, fun s v => .of_eq rfl, fun base _ _ => Y.law (fun_mk (st := s_law) l c k) base⟩
end UP
open PySem PySem.W PyProof.Rows
set_option maxHeartbeats 0 in
theorem PySem.Challenge.cw_unlikepairs_k62_whole_effects_and_rounds_holds : PySem.Challenge.rw_unlikepairs_k62_whole_effects_and_rounds.Holds := by
  w_on; o_law; k_head; (case hw => w_witness2)
  k_fill
  refine UP.walkC (l := PySem.Challenge.rw_unlikepairs_k62_whole_effects_and_rounds) (n := 63) (x := "script") (sp := fun w => UP.sp_law _) rfl (by decide) rfl (fun w h Y => PySem.W.kIn_of Y) ?F (fun _ _ a ns hl hS => ⟨a, ns, rfl, hS, hl, fun _ => rfl⟩)
  case F =>
    intro w mg fa h KX G hmg
    refine' UP.all_mk KX G hmg ?a ?l ?c ?k ?Y
    (case a => k_is); (case l => k_is); (case c => k_is); (case k => k_is)
    case Y =>
      constructor
      · constructor
        · refine' PySem.W.mg_none_of KX G ?z; (case z => k_is)
        · refine' PySem.W.mg_none_of KX G ?z; (case z => k_is)
        · refine' PySem.W.mg_none_of KX G ?z; (case z => k_is)
        · refine' PySem.W.mg_none_of KX G ?z; (case z => k_is)
        · refine' PySem.W.mg_none_of KX G ?z; (case z => k_is)
        · refine' PySem.W.mg_none_of KX G ?z; (case z => k_is)
        · refine' PySem.W.mg_none_of KX G ?z; (case z => k_is)
        · refine' PySem.W.mg_none_of KX G ?z; (case z => k_is)
        · refine' PySem.W.mg_none_of KX G ?z; (case z => k_is)
        · refine' PySem.W.mg_none_of KX G ?z; (case z => k_is)
        · refine' PySem.W.mg_none_of KX G ?z; (case z => k_is)
        · refine' PySem.W.mg_none_of KX G ?z; (case z => k_is)
        · refine' PySem.W.mg_none_of KX G ?z; (case z => k_is)
        · refine' PySem.W.mg_none_of KX G ?z; (case z => k_is)
        · refine' PySem.W.mg_none_of KX G ?z; (case z => k_is)
        · refine' PySem.W.mg_none_of KX G ?z; (case z => k_is)
        · refine' PySem.W.mg_none_of KX G ?z; (case z => k_is)
        · refine' PySem.W.mg_none_of KX G ?z; (case z => k_is)
        · refine' PySem.W.mg_none_of KX G ?z; (case z => k_is)
        · refine' PySem.W.mg_none_of KX G ?z; (case z => k_is)
        · refine' PySem.W.mg_none_of KX G ?z; (case z => k_is)
        · refine' UP.cst_mkS KX G ?z; (case z => k_is)
        · refine' UP.cst_mk KX G ?z; (case z => k_is)
        · refine' UP.cst_mk KX G ?z; (case z => k_is)
        · refine' UP.cst_mk KX G ?z; (case z => k_is)
        · refine' UP.cst_mk KX G ?z; (case z => k_is)
        · refine' UP.cst_mk KX G ?z; (case z => k_is)
        · refine' UP.cst_mk KX G ?z; (case z => k_is)
        · refine' UP.cst_mk KX G ?z; (case z => k_is)
      · refine' UP.df_mk KX G ?a ?l ?c ?k; (case a => k_is); (case l => k_is); (case c => k_is); (case k => k_is)
      · refine' UP.df_mk KX G ?a ?l ?c ?k; (case a => k_is); (case l => k_is); (case c => k_is); (case k => k_is)
      · refine' UP.df_mk KX G ?a ?l ?c ?k; (case a => k_is); (case l => k_is); (case c => k_is); (case k => k_is)
      · refine' UP.df_mk KX G ?a ?l ?c ?k; (case a => k_is); (case l => k_is); (case c => k_is); (case k => k_is)
      · refine' UP.df_mk KX G ?a ?l ?c ?k; (case a => k_is); (case l => k_is); (case c => k_is); (case k => k_is)
      · refine' UP.df_mk KX G ?a ?l ?c ?k; (case a => k_is); (case l => k_is); (case c => k_is); (case k => k_is)
      · refine' UP.df_mk KX G ?a ?l ?c ?k; (case a => k_is); (case l => k_is); (case c => k_is); (case k => k_is)
      · refine' UP.df_mk KX G ?a ?l ?c ?k; (case a => k_is); (case l => k_is); (case c => k_is); (case k => k_is)
      · refine' UP.df_mk KX G ?a ?l ?c ?k; (case a => k_is); (case l => k_is); (case c => k_is); (case k => k_is)
      · refine' UP.df_mk KX G ?a ?l ?c ?k; (case a => k_is); (case l => k_is); (case c => k_is); (case k => k_is)
      · refine' UP.df_mk KX G ?a ?l ?c ?k; (case a => k_is); (case l => k_is); (case c => k_is); (case k => k_is)
      · refine' UP.df_mk KX G ?a ?l ?c ?k; (case a => k_is); (case l => k_is); (case c => k_is); (case k => k_is)
      · refine' UP.df_mk KX G ?a ?l ?c ?k; (case a => k_is); (case l => k_is); (case c => k_is); (case k => k_is)
      · refine' UP.df_mk KX G ?a ?l ?c ?k; (case a => k_is); (case l => k_is); (case c => k_is); (case k => k_is)
      · refine' UP.df_mk KX G ?a ?l ?c ?k; (case a => k_is); (case l => k_is); (case c => k_is); (case k => k_is)
      · refine' UP.df_mk KX G ?a ?l ?c ?k; (case a => k_is); (case l => k_is); (case c => k_is); (case k => k_is)
      · refine' UP.df_mk KX G ?a ?l ?c ?k; (case a => k_is); (case l => k_is); (case c => k_is); (case k => k_is)
      · refine' UP.df_mk KX G ?a ?l ?c ?k; (case a => k_is); (case l => k_is); (case c => k_is); (case k => k_is)
      · refine' UP.df_mk KX G ?a ?l ?c ?k; (case a => k_is); (case l => k_is); (case c => k_is); (case k => k_is)
      · refine' UP.df_mk KX G ?a ?l ?c ?k; (case a => k_is); (case l => k_is); (case c => k_is); (case k => k_is)
      · refine' UP.df_mk KX G ?a ?l ?c ?k; (case a => k_is); (case l => k_is); (case c => k_is); (case k => k_is)
      · refine' UP.dfd_mk KX G ?a ?l ?t ?c ?k; (case a => k_is); (case l => k_is); (case t => k_is); (case c => k_is); (case k => k_is)
      · refine' UP.df_mk KX G ?a ?l ?c ?k; (case a => k_is); (case l => k_is); (case c => k_is); (case k => k_is)
      · refine' UP.df_mk KX G ?a ?l ?c ?k; (case a => k_is); (case l => k_is); (case c => k_is); (case k => k_is)
      · refine' UP.df_mk KX G ?a ?l ?c ?k; (case a => k_is); (case l => k_is); (case c => k_is); (case k => k_is)
      · refine' UP.df_mk KX G ?a ?l ?c ?k; (case a => k_is); (case l => k_is); (case c => k_is); (case k => k_is)
      · refine' UP.df_mk KX G ?a ?l ?c ?k; (case a => k_is); (case l => k_is); (case c => k_is); (case k => k_is)
      · refine' UP.dfdi_mk KX G ?a ?l ?t ?c ?k; (case a => k_is); (case l => k_is); (case t => k_is); (case c => k_is); (case k => k_is)
      · refine' UP.df_mk KX G ?a ?l ?c ?k; (case a => k_is); (case l => k_is); (case c => k_is); (case k => k_is)
      · refine' UP.df_mk KX G ?a ?l ?c ?k; (case a => k_is); (case l => k_is); (case c => k_is); (case k => k_is)
      · refine' UP.dfd_mk KX G ?a ?l ?t ?c ?k; (case a => k_is); (case l => k_is); (case t => k_is); (case c => k_is); (case k => k_is)
      · refine' UP.df_mk KX G ?a ?l ?c ?k; (case a => k_is); (case l => k_is); (case c => k_is); (case k => k_is)
      · refine' UP.dfd_mk KX G ?a ?l ?t ?c ?k; (case a => k_is); (case l => k_is); (case t => k_is); (case c => k_is); (case k => k_is)
      · refine' UP.dfd_mk KX G ?a ?l ?t ?c ?k; (case a => k_is); (case l => k_is); (case t => k_is); (case c => k_is); (case k => k_is)
      · refine' UP.df_mk KX G ?a ?l ?c ?k; (case a => k_is); (case l => k_is); (case c => k_is); (case k => k_is)
      · refine' UP.df_mk KX G ?a ?l ?c ?k; (case a => k_is); (case l => k_is); (case c => k_is); (case k => k_is)
      · refine' UP.df_mk KX G ?a ?l ?c ?k; (case a => k_is); (case l => k_is); (case c => k_is); (case k => k_is)
      · refine' UP.df_mk KX G ?a ?l ?c ?k; (case a => k_is); (case l => k_is); (case c => k_is); (case k => k_is)
      · refine' UP.df_mk KX G ?a ?l ?c ?k; (case a => k_is); (case l => k_is); (case c => k_is); (case k => k_is)
      · refine' UP.df_mk KX G ?a ?l ?c ?k; (case a => k_is); (case l => k_is); (case c => k_is); (case k => k_is)
      · refine' UP.df_mk KX G ?a ?l ?c ?k; (case a => k_is); (case l => k_is); (case c => k_is); (case k => k_is)
      · refine' UP.df_mk KX G ?a ?l ?c ?k; (case a => k_is); (case l => k_is); (case c => k_is); (case k => k_is)
      · refine' UP.df_mk KX G ?a ?l ?c ?k; (case a => k_is); (case l => k_is); (case c => k_is); (case k => k_is)
      · refine' UP.df_mk KX G ?a ?l ?c ?k; (case a => k_is); (case l => k_is); (case c => k_is); (case k => k_is)
      · refine' UP.df_mk KX G ?a ?l ?c ?k; (case a => k_is); (case l => k_is); (case c => k_is); (case k => k_is)
      · refine' UP.df_mk KX G ?a ?l ?c ?k; (case a => k_is); (case l => k_is); (case c => k_is); (case k => k_is)
      · refine' UP.df_mk KX G ?a ?l ?c ?k; (case a => k_is); (case l => k_is); (case c => k_is); (case k => k_is)
      · refine' UP.df_mk KX G ?a ?l ?c ?k; (case a => k_is); (case l => k_is); (case c => k_is); (case k => k_is)
      · refine' UP.df_mk KX G ?a ?l ?c ?k; (case a => k_is); (case l => k_is); (case c => k_is); (case k => k_is)
      · refine' UP.df_mk KX G ?a ?l ?c ?k; (case a => k_is); (case l => k_is); (case c => k_is); (case k => k_is)
      · refine' UP.df_mk KX G ?a ?l ?c ?k; (case a => k_is); (case l => k_is); (case c => k_is); (case k => k_is)
      · refine' UP.df_mk KX G ?a ?l ?c ?k; (case a => k_is); (case l => k_is); (case c => k_is); (case k => k_is)
      · refine' UP.df_mk KX G ?a ?l ?c ?k; (case a => k_is); (case l => k_is); (case c => k_is); (case k => k_is)
      · refine' UP.df_mk KX G ?a ?l ?c ?k; (case a => k_is); (case l => k_is); (case c => k_is); (case k => k_is)
      · refine' UP.df_mk KX G ?a ?l ?c ?k; (case a => k_is); (case l => k_is); (case c => k_is); (case k => k_is)
      · refine' UP.df_mk KX G ?a ?l ?c ?k; (case a => k_is); (case l => k_is); (case c => k_is); (case k => k_is)
      · refine' UP.df_mk KX G ?a ?l ?c ?k; (case a => k_is); (case l => k_is); (case c => k_is); (case k => k_is)
      · refine' UP.df_mk KX G ?a ?l ?c ?k; (case a => k_is); (case l => k_is); (case c => k_is); (case k => k_is)
      · refine' UP.df_mk KX G ?a ?l ?c ?k; (case a => k_is); (case l => k_is); (case c => k_is); (case k => k_is)
      · refine' UP.ex_mk KX G ?a ?c ?k ?bs ?t ?m; (case a => k_is); (case c => first | k_exc | k_is); (case k => k_is); (case bs => k_is); (case t => k_is); (case m => kts_exm)
