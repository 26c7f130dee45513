import PyProof.Rows.All
import Wide.All
import OpenK.AllK
import Wide.FinOn
import HandS.ForMost
import HandS.Wide
import HandS.IsInst
import HandS.Defaults
import HandS.Codes
import HandS.Style
import PyProof.ReprRoads
import PyProof.ReprLen
import HandS.Zip
import HandS.NoneIn
import HandS.TupAny
import KE.KeyNested
import PyProof.DictRoadsH
import HandS.Iter
import HandS.Walk
import KE.KDictItemsList
import HandS.DictTup
import HandS.ListItems
import KE.KDictCopyH
import HandS.DictComp
import HandS.SortRule
import HandS.SortOrd
import KE.KDictWalk
import HandS.SortInts
import HandS.RevRange
import HandS.Deep
import HandS.SetFor
import KE.DataMinKey
import KE.LtData
import HandS.SortKw
import HandS.ExcValue
import PyProof.Rows.SortShellAny
import PySem.Challenge.RW_unlikepairs_k39_large_orders
set_option Elab.async false
set_option linter.all false
set_option maxRecDepth 100000
set_option maxHeartbeats 4000000
namespace UP
open PySem PySem.Spec PyProof.Rows L2

/-! ### a def that keeps a promise, by its name -/
section
variable (P : Program) (w : World) (K : PySem.W.Frag) (mg : Str → Option Value) (base : Heap)
def Has (k : Nat) (x : Str) (ps : List Str) (sp : Sp) : Prop :=
  ∃ f fd, mg x = some (.ref f) ∧ PySem.W.keepIn K (.ref f) = true ∧ Binds K fd ps [] ∧ FnOk P w K mg base CX0 k f fd ps sp
def Df (x : Str) (st : Stmt) : Prop := ∃ f fd, mg x = some (.ref f) ∧ Fun K x x st f fd
end
theorem Df.of {K : PySem.W.Frag} {mg : Str → Option Value} {x : Str} {st : Stmt} {f : Addr} {fd : FuncData} (g : mg x = some (.ref f)) (F : Fun K x x st f fd) : Df K mg x st := ⟨f, fd, g, F⟩
section
variable {P : Program} {w : World} {K : PySem.W.Frag} {mg : Str → Option Value} {base : Heap}
theorem has_of {x : Str} {st : Stmt} {ps N : List Str} {k : Nat} {sp : Sp} (D : Df K mg x st) (S : FnScope N ps (defScope st))
    (hb : ∀ (kV doc pm : Value) (an : Option Addr) (cdv ct : Value) (us : List Value), us.length = ps.length → bindArgs (PySem.W.fnOf x x (defArgs st) (defBody st) (defScope st) .none kV doc pm an cdv ct) ⟨us, []⟩ = pure (ps.zip us))
    (len : ∀ vs H Q E, sp vs H Q E → vs.length = ps.length)
    (body : ∀ (f : Addr) (cdv : Value) (A : Around) (outer : List Env) (s : Shared) (H : Hp) (vs : List V) (Q : VK) (E : XK), Room k (A.deeper (envOfC x (defScope st) s.heap.objs.size f cdv)) → sp vs H Q E →
      ∃ t, PSs (cxOf CX0 P w K mg base N x (defScope st) f cdv A outer s H E).nox (defBody st) t ∧ t { nx := fun _ H' => Q .non H', rt := Q } (start N vs) H) :
    Has P w K mg base (k + 1) x ps sp := by
  obtain ⟨f, fd, g, F⟩ := D
  exact ⟨f, fd, g, F.kp, F.binds hb, F.ok S len fun cdv A outer s H vs Q E hr h => body f cdv A outer s H vs Q E hr h⟩
theorem Has.weak {x : Str} {ps : List Str} {k : Nat} {sp sp' : Sp} (h : Has P w K mg base k x ps sp) (e : sp = sp') : Has P w K mg base k x ps sp' := e ▸ h
end
section
variable {X : Cx}
theorem pe_callH {k : Nat} {x : Str} {ps : List Str} {sp : Sp} {p pos : Pos} {e : Expr} {es : List Expr} {t : TA} (G : Has X.prog X.w X.K X.mg X.base k x ps sp) (hr : Room k X.A) (hg : Gl X x) (ha : PA X (e :: es) t)
    (hdb : (x == ("__debug__" : Str)) = false := by decide) (he : starEach (e :: es) X.env = (false, eval e X.env) :: starEach es X.env := by rfl) (hpl : (backTo pos (starEach es X.env)).any (·.1) = false := by rfl) :
    PE X (.Call (.Name x p) (e :: es) [] pos) (tCall sp [] E0 t) := by
  obtain ⟨f, fd, g, kp, b, F⟩ := G
  exact pe_call F hr hg g kp b .nil pass0 ha hdb he hpl
theorem pe_glI {x : Str} {i : Int} {pos : Pos} (h : ∃ t, X.mg x = some (.int i t)) (hg : Gl X x) (hd : (x == ("__debug__" : Str)) = false := by decide) : PE X (.Name x pos) (tC (.int i)) := by
  obtain ⟨t, h⟩ := h
  exact pe_glob hg h ⟨t, rfl⟩ hd
end

/-! ### heaps -/
theorem same_upd {H : Hp} {p : Addr} {o : HO} (h : H p = none) : Same H (upd H p o) := fun b x e => by
  rw [upd_ne (ne_of_none e h)]
  exact e
/-- all but the object at sp is as it was -/
def But (sp : Addr) (H H' : Hp) : Prop := ∀ b o, b ≠ sp → H b = some o → H' b = some o
theorem Same.but {sp : Addr} {H H' : Hp} (h : Same H H') : But sp H H' := fun b o _ e => h b o e
theorem But.trans {sp : Addr} {H H1 H2 : Hp} (a : But sp H H1) (b : But sp H1 H2) : But sp H H2 := fun c o n e => b c o n (a c o n e)
theorem But.refl {sp : Addr} {H : Hp} : But sp H H := fun _ _ _ e => e
theorem but_upd {sp : Addr} {H : Hp} {o : HO} : But sp H (upd H sp o) := fun b x n e => by
  rw [upd_ne n]
  exact e
theorem small {n : Nat} (h : n ≤ 1000000) : n < sizeLine := Nat.lt_of_le_of_lt h (by decide)
theorem smallE {n : Nat} (h : n ≤ 1000000) : n ≤ sizeLine := Nat.le_of_lt (small h)

/-! ### runs and states -/
abbrev Run := Str × Int
def RunV (H : Hp) (v : V) (r : Run) : Prop := ∃ t, v = .ref t ∧ H t = some (.tup [.str r.1, .int r.2])
def Runs (H : Hp) (a : Addr) (rs : List Run) : Prop := ∃ xs, H a = some (.lst xs) ∧ Paired (RunV H) xs rs
def StV (H : Hp) (v : V) : Option Run → Prop
  | none => v = .non
  | some r => RunV H v r
theorem RunV.same {H H' : Hp} {v : V} {r : Run} (s : Same H H') (h : RunV H v r) : RunV H' v r := by
  obtain ⟨t, e, h⟩ := h
  exact ⟨t, e, s _ _ h⟩
theorem Paired.len {α β : Type} {F : α → β → Prop} : ∀ {l₁ : List α} {l₂ : List β}, Paired F l₁ l₂ → l₁.length = l₂.length
  | _, _, .nil => rfl
  | _, _, .cons _ t => congrArg Nat.succ (Paired.len t)
theorem Paired.at {α β : Type} {F : α → β → Prop} : ∀ {l₁ : List α} {l₂ : List β} {i : Nat} {x : α}, Paired F l₁ l₂ → l₁[i]? = some x → ∃ y, l₂[i]? = some y ∧ F x y
  | _, _, _, _, .nil, h => by simp at h
  | _, _, 0, _, .cons h _, e => by
    simp only [List.getElem?_cons_zero, Option.some.injEq] at e
    subst e
    exact ⟨_, by simp, h⟩
  | _, _, i + 1, _, .cons _ t, e => by
    simp only [List.getElem?_cons_succ] at e ⊢
    exact Paired.at t e
theorem Paired.at' {α β : Type} {F : α → β → Prop} : ∀ {l₁ : List α} {l₂ : List β} {i : Nat} {y : β}, Paired F l₁ l₂ → l₂[i]? = some y → ∃ x, l₁[i]? = some x ∧ F x y
  | _, _, _, _, .nil, h => by simp at h
  | _, _, 0, _, .cons h _, e => by
    simp only [List.getElem?_cons_zero, Option.some.injEq] at e
    subst e
    exact ⟨_, by simp, h⟩
  | _, _, i + 1, _, .cons _ t, e => by
    simp only [List.getElem?_cons_succ] at e ⊢
    exact Paired.at' t e
theorem Paired.imp {α β : Type} {F G : α → β → Prop} (f : ∀ a b, F a b → G a b) : ∀ {l₁ : List α} {l₂ : List β}, Paired F l₁ l₂ → Paired G l₁ l₂
  | _, _, .nil => .nil
  | _, _, .cons h t => .cons (f _ _ h) (Paired.imp f t)
theorem Paired.app {α β : Type} {F : α → β → Prop} : ∀ {l₁ m₁ : List α} {l₂ m₂ : List β}, Paired F l₁ l₂ → Paired F m₁ m₂ → Paired F (l₁ ++ m₁) (l₂ ++ m₂)
  | _, _, _, _, .nil, h => h
  | _, _, _, _, .cons h t, k => .cons h (Paired.app t k)
theorem Paired.dropp {α β : Type} {F : α → β → Prop} : ∀ {l₁ : List α} {l₂ : List β} (n : Nat), Paired F l₁ l₂ → Paired F (l₁.drop n) (l₂.drop n)
  | _, _, 0, h => h
  | _, _, n + 1, .nil => .nil
  | _, _, n + 1, .cons _ t => by
    simp only [List.drop_succ_cons]
    exact Paired.dropp n t
theorem Paired.takep {α β : Type} {F : α → β → Prop} : ∀ {l₁ : List α} {l₂ : List β} (n : Nat), Paired F l₁ l₂ → Paired F (l₁.take n) (l₂.take n)
  | _, _, 0, h => by simp only [List.take_zero]; exact .nil
  | _, _, n + 1, .nil => .nil
  | _, _, n + 1, .cons h t => by
    simp only [List.take_succ_cons]
    exact .cons h (Paired.takep n t)
theorem Runs.same {H H' : Hp} {a : Addr} {rs : List Run} (s : Same H H') (h : Runs H a rs) : Runs H' a rs := by
  obtain ⟨xs, e, p⟩ := h
  exact ⟨xs, s _ _ e, Paired.imp (fun _ _ => RunV.same s) p⟩
theorem StV.same {H H' : Hp} {v : V} {st : Option Run} (s : Same H H') (h : StV H v st) : StV H' v st := by
  cases st with
  | none => exact h
  | some r => exact RunV.same s h
/-- the spring: a list of three ints -/
def Spr (H : Hp) (sp : Addr) : Prop := ∃ d s c : Int, H sp = some (.lst [.int d, .int s, .int c]) ∧ 0 ≤ d ∧ d.natAbs < 2 ^ 20000 ∧ 0 ≤ s ∧ s < 2305843009213693951
theorem RunV.but {H H' : Hp} {sp : Addr} {v : V} {r : Run} (z : Spr H sp) (s : But sp H H') (h : RunV H v r) : RunV H' v r := by
  obtain ⟨t, e, h⟩ := h
  obtain ⟨_, _, _, hs, _⟩ := z
  exact ⟨t, e, s _ _ (ne_of h hs (by intro q; cases q)) h⟩
theorem Runs.ne {H : Hp} {sp a : Addr} {rs : List Run} (z : Spr H sp) (h : Runs H a rs) : a ≠ sp := by
  obtain ⟨xs, e, p⟩ := h
  obtain ⟨d, s, c, hs, _⟩ := z
  refine ne_of e hs fun q => ?_
  have q := HO.lst.inj q
  subst q
  cases p with
  | cons h _ =>
    obtain ⟨t, e, _⟩ := h
    cases e
theorem Runs.but {H H' : Hp} {sp a : Addr} {rs : List Run} (z : Spr H sp) (s : But sp H H') (h : Runs H a rs) : Runs H' a rs := by
  have n := Runs.ne z h
  obtain ⟨xs, e, p⟩ := h
  exact ⟨xs, s _ _ n e, Paired.imp (fun _ _ => RunV.but z s) p⟩
theorem StV.but {H H' : Hp} {sp : Addr} {v : V} {st : Option Run} (z : Spr H sp) (s : But sp H H') (h : StV H v st) : StV H' v st := by
  cases st with
  | none => exact h
  | some r => exact RunV.but z s h
theorem Spr.same {H H' : Hp} {sp : Addr} (z : Spr H sp) (s : Same H H') : Spr H' sp := by
  obtain ⟨d, e, c, hs, r⟩ := z
  exact ⟨d, e, c, s _ _ hs, r⟩
def KindOk (s : Str) : Prop := 1 ≤ s.length ∧ s.length ≤ 8 ∧ ∀ c ∈ s.cps.toList, 97 ≤ c ∧ c ≤ 122
def RunOk (r : Run) : Prop := KindOk r.1 ∧ 1 ≤ r.2 ∧ r.2 ≤ 1000000000000000000000000000000
def Alt (rs : List Run) : Prop := ∀ (i : Nat) (x y : Run), rs[i]? = some x → rs[i + 1]? = some y → x.1 ≠ y.1
def SeqOk (rs : List Run) : Prop := rs.length ≤ 400 ∧ (∀ r ∈ rs, RunOk r) ∧ Alt rs
end UP

set_option Elab.async false
set_option linter.all false
set_option maxRecDepth 100000
set_option maxHeartbeats 4000000
namespace UP
open PySem PySem.Spec PyProof.Rows L2
/-! ### repr of plain data, where no other repr is under way -/
def rRepr (K : PySem.W.Frag) : List V → Hp → VK → Prop := fun xs H Q => ∃ (a : Addr) (d : PyData), xs = [.ref a] ∧ Dp K H (.ref a) d ∧ d.showable = true ∧ SeqAt.shaped d = true ∧ d.shown.length ≤ sizeLine ∧ Q (.str d.shown) H
theorem call_reprD {X : Cx} (hg : X.A.guards = some []) (hu : X.A.units + 70 < cLine) : CallR X (.builtin "repr") (rRepr X.K) := by
  intro pins s σ H xs us Q I r h
  obtain ⟨a, d, rfl, dp, sh, sp, sz, q⟩ := h
  obtain ⟨u, rfl, ru⟩ := vals1 r
  cases (show u = Value.ref a from ru)
  obtain ⟨as, rd⟩ := Dp.reads I d (.ref a) (.ref a) dp rfl
  have dd := SeqAt.depth_of_shaped sp
  refine repr_of_reads' rd sh (PyData.noDict_hsm (PyData.hasDict_of_canLay d (SeqAt.canLay_of_shaped sp))) hg (by omega) (fun _ _ e => e) (fun h' u tk hk => ?_) sz
  exact ⟨.str d.shown, H, I.kept (t' := tk) hk, ⟨u, rfl⟩, q⟩
/-! ### the law's own call, around it nothing -/
structure FnC (P : Program) (w : World) (K : PySem.W.Frag) (mg : Str → Option Value) (base : Heap) (f : Addr) (fd : FuncData) (ps : List Str) (sp : Sp) : Prop where
  go : ∀ (out : List Env) (s : Shared) (H : Hp) (args : Args) (us : List Value) (vs : List V) (Q : VK) (E : XK), Env0 P w K mg base callerA out s H → BindsTo s fd args (ps.zip us) → Vals vs us → sp vs H Q E →
    codeAny (model P w) callerA (.call (.ref f) args) (CR CX0 out P w H s Q E) s
theorem callerA_room : Room 8 callerA := ⟨rfl, by decide, by decide⟩
section
variable {P : Program} {w : World} {K : PySem.W.Frag} {mg : Str → Option Value} {base : Heap}
theorem fnC_of {x : Str} {st : Stmt} {f : Addr} {fd : FuncData} {ps N : List Str} {sp : Sp} (F : Fun K x x st f fd) (S : FnScope N ps (defScope st)) (len : ∀ vs H Q E, sp vs H Q E → vs.length = ps.length)
    (body : ∀ (cdv : Value) (out : List Env) (s : Shared) (H : Hp) (vs : List V) (Q : VK) (E : XK), Room 7 (callerA.deeper (envOfC x (defScope st) s.heap.objs.size f cdv)) → sp vs H Q E →
      ∃ t, PSs (cxOf CX0 P w K mg base N x (defScope st) f cdv callerA out s H E).nox (defBody st) t ∧ t { nx := fun _ H' => Q .non H', rt := Q } (start N vs) H) : FnC P w K mg base f fd ps sp := by
  obtain ⟨oc, od, kV, doc, pm, an, cdv, ct, osl, rfl, lk, hcd⟩ := F.ex
  refine ⟨fun out s H args us vs Q E e0 hb rv hsp => ?_⟩
  have inS : K.In s.heap := e0.mod.kin.keeps fun b o z => (e0.bs b o z).1
  have noL : s.heap.NoLimit := e0.mod.nolimit.keeps fun b o z => (e0.bs b o z).1
  have kinds : ∀ y ∈ ps.zip us, (defScope st).names.lookup y.1 = some .local ∨ ((defScope st).names.lookup y.1 = some .cell ∧ ((cellsFrom (s.heap.objs.size + 1) (defScope st).names []).lookup y.1).isSome = true) := by
    intro y hy
    rcases S.par y.1 (List.of_mem_zip (a := y.1) (b := y.2) hy).1 with z | z
    · exact Or.inl z
    · exact Or.inr ⟨z, PySem.W.cellsFrom_some _ _ _ (Or.inl z)⟩
  refine codeAny_call_function callerA_room.depth (inS _ _ lk) rfl S.co S.gen rfl (PySem.W.codeRec_of inS hcd) (hb _ _ _ _ ?_)
  refine wpAny_newFunctionEnv_cells S.kind kinds fun env he s1 inC => ?_
  subst he
  refine ⟨noL.keeps inC.toInCall.keep, codeAny_func ?_⟩
  obtain ⟨t, ht0, hq⟩ := body cdv out s H vs Q E (callerA_room.deeper _) hsp
  have ht := PSs.nox ht0
  have I0 : Inv (cxOf CX0 P w K mg base N x (defScope st) f cdv callerA out s H E) [] (start N vs) H s1 := inv_start S rfl e0 (len _ _ _ _ hsp) rv inC
  refine wpAny_mono (ht.run [] s1 (start N vs) H _ I0 hq) (fun fl s2 h2 => ?_) fun _ _ z => z
  cases fl with
  | next =>
    obtain ⟨σ2, H2, J, q2⟩ := h2
    exact ⟨V.non, H2, J.os, J.bare, J.base, J.hok, rfl, q2⟩
  | ret u =>
    obtain ⟨v, σ2, H2, J, rv2, q2⟩ := h2
    exact ⟨v, H2, J.os, J.bare, J.base, J.hok, rv2, q2⟩
  | brk =>
    obtain ⟨_, _, _, z⟩ := h2
    exact z.elim
  | cont =>
    obtain ⟨_, _, _, z⟩ := h2
    exact z.elim
end
/-- the heap that holds the script alone, locked -/
def oneH (a : Addr) (o : Obj) (xs : List V) : Hp := fun b => if b = a then some (.frz o (.lst xs)) else none
theorem run_law {P : Program} {w : World} {K : PySem.W.Frag} {mg mb : Str → Option Value} {fa a : Addr} {fd : FuncData} {x : Str} {sp : Sp} {s : Shared} {vs : List Value} {ns : List Int}
    (kx : K.In s.heap) (gns : s.heap.Ns mainGlobals mg) (bns : s.heap.Ns builtinsNs mb) (bb : ∀ y : Str, y ≠ "__name__" → mb y = bootBuiltins y) (nl : s.heap.NoLimit) (gens : s.gens = #[])
    (ob : s.heap.get? a = some { cls := .type "list", data := .seq vs.toArray }) (hin : IntsAre vs ns) (len : ns.length ≤ sizeLine) (F : ∀ base : Heap, K.In base → base.Ns mainGlobals mg → FnC P w K mg base fa fd [x] sp)
    (bind : ∀ (s : Shared) (u : Value), BindsTo s fd ⟨[u], []⟩ [(x, u)]) (hsp : ∀ H : Hp, SqL K H a (ns.map V.int) → sp [.ref a] H (fun v _ => v = .bl true) fun _ _ _ => False) :
    codeAny (model P w) callerA (.call (.ref fa) ⟨[.ref a], []⟩) (fun r s' => r = .ok (.ret (.bool true)) ∧ OldK s.heap s'.heap ∧ s'.os = s.os ∧ AllBare s'.gens) s := by
  have rel := vals_ints hin
  have step : ∀ H : Hp, (H = (fun _ => none) ∨ (H = oneH a { cls := .type "list", data := .seq vs.toArray } (ns.map V.int) ∧ K.lookup a = none)) → SqL K H a (ns.map V.int) → HOk P w H s.heap →
      codeAny (model P w) callerA (.call (.ref fa) ⟨[.ref a], []⟩) (fun r s' => r = .ok (.ret (.bool true)) ∧ OldK s.heap s'.heap ∧ s'.os = s.os ∧ AllBare s'.gens) s := by
    intro H hH hS hok
    have only : ∀ b u, H b = some u → b = a ∧ u = .frz { cls := .type "list", data := .seq vs.toArray } (.lst (ns.map V.int)) ∧ K.lookup a = none := by
      intro b u e
      rcases hH with z | ⟨z, z2⟩
      · rw [z] at e
        cases e
      · rw [z] at e
        by_cases hb : b = a
        · have e := (if_pos hb).symm.trans e
          cases e
          exact ⟨hb, rfl, z2⟩
        · have e := (if_neg hb).symm.trans e
          cases e
    have free : ∀ {b : Addr} {o : Obj}, s.heap.get? b = some o → (b = a → False) → (hidT s.heap H).get? b = some o := by
      intro b o e n
      refine hidT_get e ?_
      cases q : H b with
      | none => rfl
      | some u => exact (n (only b u q).1).elim
    have nss : ∀ {b : Addr} {m : Str → Option Value}, s.heap.Ns b m → (hidT s.heap H).Ns b m := by
      intro b m ⟨o, es, ep, e, d, r⟩
      refine ⟨o, es, ep, free e fun z => ?_, d, r⟩
      subst z
      rw [ob] at e
      cases e
      cases d
    have kb : K.In (hidT s.heap H) := by
      intro b o e
      refine hidT_get (kx b o e) ?_
      cases q : H b with
      | none => rfl
      | some u =>
        obtain ⟨z1, _, z2⟩ := only b u q
        rw [z1, z2] at e
        cases e
    have md : Mod K mg (hidT s.heap H) := ⟨kb, nss gns, ⟨mb, nss bns, bb⟩, by obtain ⟨mc, h1, h2⟩ := nl; exact ⟨mc, nss h1, h2⟩⟩
    have env : Env0 P w K mg (hidT s.heap H) callerA [] s H := ⟨rfl, md, fun b o e => of_hidT e, Nat.le_of_eq (hidT_size _ _), trivial, (fun b hb => by cases hb), hok, .of_eq gens⟩
    refine codeAny_mono ((F _ kb (nss gns)).go [] s H ⟨[.ref a], []⟩ [.ref a] [.ref a] _ _ env (bind s (.ref a)) (.cons rfl .nil) (hsp H hS)) fun r s' h => ?_
    cases r with
    | error e => exact h.elim
    | ok fl =>
      cases fl with
      | next => exact h.elim
      | brk => exact h.elim
      | cont => exact h.elim
      | ret u =>
        obtain ⟨v, H', o1, o2, un, hok', rv, q⟩ := h
        have q : v = .bl true := q
        subst q
        cases (show u = Value.bool true from rv)
        refine ⟨rfl, OldK.of_keep fun b o e => ?_, o1, o2⟩
        cases q : H b with
        | none => exact un.keep b o e q (fun z => by cases z) (fun z => by cases z)
        | some u =>
          obtain ⟨_, z, _⟩ := only b u q
          subst z
          obtain ⟨e1, _⟩ := hok b _ q
          obtain ⟨e2, _⟩ := hok' b _ (un.frzs b _ _ q)
          rw [e] at e1
          cases e1
          exact e2
  cases hk : K.lookup a with
  | some o =>
    have e := kx a o hk
    rw [ob] at e
    cases e
    refine step (fun _ => none) (.inl rfl) (.inr ⟨_, vs.toArray, _, hk, rfl, rfl, rfl, ?_, by simpa using rel⟩) fun b u z => by cases z
    rw [List.size_toArray, hin.length]
    exact len
  | none =>
    have at_a : oneH a { cls := .type "list", data := .seq vs.toArray } (ns.map V.int) a = some (.frz { cls := .type "list", data := .seq vs.toArray } (.lst (ns.map V.int))) := if_pos rfl
    refine step _ (.inr ⟨rfl, hk⟩) (.inl (.inr ⟨_, at_a⟩)) fun b u z => ?_
    by_cases hb : b = a
    · subst hb
      rw [at_a] at z
      cases z
      exact ⟨ob, by rw [List.length_map]; exact len, vs, _, rel, ob⟩
    · have z := (if_neg hb).symm.trans z
      cases z
theorem walkC {l : PySem.W.OpenLaw} {n : Nat} {q : Program} {loose : List Str} {XP : (Str → Option Value) → Heap → Prop} {YP : World → Heap → Prop} {d : DefRec} {K : Params → PySem.W.Frag} {sp : World → Sp} {x : Str}
    (hn : l.most = some n) (n2 : n ≤ sizeLine) (df : d.params.defaults = []) (hY : ∀ (w : World) (h : Heap), YP w h → (K w.params).In h)
    (F : ∀ (w : World) (mg : Str → Option Value) (fa : Addr) (h : Heap), (K w.params).In h → h.Ns mainGlobals mg → mg d.name = some (.ref fa) →
      ∃ fd : FuncData, (∀ (s : Shared) (u : Value), BindsTo s fd ⟨[u], []⟩ [(x, u)]) ∧ ∀ base : Heap, (K w.params).In base → base.Ns mainGlobals mg → FnC l.prog w (K w.params) mg base fa fd [x] (sp w))
    (hsp : ∀ (w : World) (H : Hp) (a : Addr) (ns : List Int), ns.length ≤ n → SqL (K w.params) H a (ns.map V.int) → sp w [.ref a] H (fun v _ => v = .bl true) fun _ _ _ => False) :
    PySem.W.WalkO q loose XP YP l.row.toRowW d [] (fun f vs => PySem.call f vs) := by
  refine Att.attach_call hn df fun w s₀ s mg mb fa o pm cd doc a vs ns G Y ho hd hcd hmg hobj hints hlen hg => ?_
  have kx := hY w _ Y
  obtain ⟨fd, hb, hF⟩ := F w mg fa _ kx G.T.g hmg
  exact run_law kx G.T.g G.T.b G.T.builtins G.T.nolimit hg hobj hints (Nat.le_trans hlen n2) hF hb fun H hS => hsp w H a ns hlen hS
end UP

set_option Elab.async false
set_option linter.all false
set_option maxRecDepth 100000
set_option maxHeartbeats 4000000
namespace UP
open PySem PySem.Spec PyProof.Rows L2
/-! ### lists or tuples -/
def Sq2 (H : Hp) (a : Addr) (xs : List V) : Prop := H a = some (.lst xs) ∨ H a = some (.tup xs)
theorem Sq2.same {H H' : Hp} {a : Addr} {xs : List V} (s : Same H H') (h : Sq2 H a xs) : Sq2 H' a xs := h.elim (fun z => .inl (s _ _ z)) (fun z => .inr (s _ _ z))
/-- a walk over the items xs, from the heap H on -/
structure Wk (J : It) (H : Hp) (xs : List V) : Prop where
  go : ∀ i H', Same H H' → i < xs.length → J.go i H'
  stop : ∀ H', Same H H' → J.stop xs.length H'
  yld : ∀ i x H' H'', Same H H' → J.yld i H' x H'' → H'' = H' ∧ xs[i]? = some x
theorem wk_list {K : PySem.W.Frag} {H : Hp} {a : Addr} {xs : List V} (h : H a = some (.lst xs)) : Wk (Itl K a) H xs :=
  ⟨fun i H' s hi => ⟨xs, xs[i], .of (s _ _ h), List.getElem?_eq_getElem hi⟩, fun H' s => ⟨xs, .of (s _ _ h), Nat.le_refl _⟩, fun i x H' H'' s y => ⟨y.1, y.2 xs (.of (s _ _ h))⟩⟩
theorem wk_tup {K : PySem.W.Frag} {H : Hp} {a : Addr} {xs : List V} (h : H a = some (.tup xs)) : Wk (Itt K a) H xs :=
  ⟨fun i H' s hi => ⟨xs, xs[i], .of (s _ _ h), List.getElem?_eq_getElem hi⟩, fun H' s => ⟨xs, .of (s _ _ h), Nat.le_refl _⟩, fun i x H' H'' s y => ⟨y.1, y.2 xs (.of (s _ _ h))⟩⟩
def iSeqV (i : Nat) : TI := fun σ H R => ∃ a xs, σ[i]? = some (some (.ref a)) ∧ Sq2 H a xs ∧ ∀ J, Wk J H xs → R J H
section
variable {X : Cx}
theorem pi_seqV (i : Nat) {x : Str} {pos : Pos} {tg : Expr} (hN : X.N[i]? = some x := by rfl) (hv : Vis X.env.scope x := by first | exact Or.inl rfl | exact Or.inr (Or.inl rfl) | exact Or.inr (Or.inr rfl)) (hd : (x == ("__debug__" : Str)) = false := by decide)
    (hc : (x == ("__classdict__" : Str)) = false := by decide) : PI X tg (.Name x pos) (iSeqV i) := by
  refine ⟨fun pins s σ H R I hw => ?_⟩
  obtain ⟨a, xs, e, h, k⟩ := hw
  rcases h with h | h
  · exact (pi_list (pe_var hN hv hd hc)).run pins s σ H R I ⟨_, e, a, rfl, ⟨xs, .of h⟩, k _ (wk_list h)⟩
  · exact (pi_tup (pe_var hN hv hd hc)).run pins s σ H R I ⟨_, e, a, rfl, ⟨xs, .of h⟩, k _ (wk_tup h)⟩
def gAny (n : Nat) (t : TGs) : TG := fun v σ H Q => ∃ a xs, v = .ref a ∧ Sq2 H a xs ∧ xs.length = n ∧ t xs σ H Q
theorem pg_any {es : List Expr} {k n : Nat} {t : TGs} {pos : Pos} (hc : X.calm = true) (h : PGs X es t) (hn : (assignEach es X.env).length = n := by rfl) (hst : (assignEach es X.env).findIdx? (fun z => z.1) = none := by rfl) : PG X (.Tuple es k pos) (gAny n t) := by
  refine ⟨fun pins s σ H v u Q I r hw => ?_⟩
  obtain ⟨a, xs, e, hx, hl, hw⟩ := hw
  rcases hx with z | z
  · exact (pg_unl hc h hn hst).run pins s σ H v u Q I r ⟨a, xs, e, .of z, hl, hw⟩
  · exact (pg_tup hc h hn hst).run pins s σ H v u Q I r ⟨a, xs, e, .of z, hl, hw⟩
/-- zip(x, x[1:]) -/
structure WkZ (J : It) (H : Hp) (xs : List V) : Prop where
  go : ∀ i H', Same H H' → i + 1 < xs.length → J.go i H'
  stop : ∀ H', Same H H' → J.stop (xs.length - 1) H'
  yld : ∀ i x H' H'', Same H H' → J.yld i H' x H'' → ∃ T x1 x2, x = .ref T ∧ H' T = none ∧ H'' = upd H' T (.tup [x1, x2]) ∧ xs[i]? = some x1 ∧ (i + 1 < xs.length → xs[i + 1]? = some x2)
def iZip1 (i : Nat) : TI := fun σ H R => ∃ a xs, σ[i]? = some (some (.ref a)) ∧ Sq2 H a xs ∧ ∀ J H', Same H H' → WkZ J H' xs → R J H'
theorem cutt_one (xs : List V) : cutV xs (some 1) none = xs.drop 1 := by
  have e : HT.sIx xs.length 0 (some 1) = min 1 xs.length := HT.sIx_nat xs.length 0 1
  unfold cutV
  rw [e, HT.sIx_none]
  cases xs with
  | nil => rfl
  | cons x r =>
    have e1 : min 1 (x :: r).length = 1 := by simp only [List.length_cons]; omega
    rw [e1]
    simp
theorem pi_zip1 {i : Nat} {tg it : Expr} {tl th : TO} (h : PI X tg it (RZ.iZipA X.K (tCons (tVar i) (tCons (tSl (fun x lo hi H Q => rSlL X.K x lo hi H Q ∨ rSlA X.K x lo hi H Q) (tVar i) tl th) tNil))))
    (h1 : ∀ (σ : L2.St) (H : Hp) (Q : Option Int → Hp → Prop), Q (some 1) H → tl σ H Q) (h2 : ∀ (σ : L2.St) (H : Hp) (Q : Option Int → Hp → Prop), Q none H → th σ H Q) : PI X tg it (iZip1 i) := by
  refine ⟨fun pins s σ H R I hw => h.run pins s σ H R I ?_⟩
  obtain ⟨a, xs, e, hx, k⟩ := hw
  refine ⟨_, e, _, e, h1 σ H _ (h2 σ H _ ?_)⟩
  have gn : ∀ j : Nat, (xs.drop 1)[j]? = xs[j + 1]? := fun j => by rw [List.getElem?_drop, Nat.add_comm 1 j]
  rcases hx with hx | hx
  · refine .inl ⟨a, xs, rfl, .of hx, fun c nc => ?_⟩
    have sc : Same H (upd H c (.lst (cutV xs (some 1) none))) := fun b o z => by rw [upd_ne (ne_of_none z nc)]; exact z
    have hc : (upd H c (.lst (cutV xs (some 1) none))) c = some (.lst (xs.drop 1)) := by rw [upd_same, cutt_one]
    refine ⟨a, c, xs, xs.drop 1, rfl, .inl ⟨.of (sc _ _ hx), .of hc, k _ _ sc ⟨fun j H' sj hj => ?_, fun H' sj => ?_, fun j x H' H'' sj y => ?_⟩⟩⟩
    · exact ⟨xs, xs.drop 1, xs[j], xs[j + 1], .of (sj _ _ (sc _ _ hx)), .of (sj _ _ hc), List.getElem?_eq_getElem (by omega), by rw [gn]; exact List.getElem?_eq_getElem hj⟩
    · exact ⟨xs, xs.drop 1, .of (sj _ _ (sc _ _ hx)), .of (sj _ _ hc), .inr (by rw [List.length_drop]; exact Nat.le_refl _)⟩
    · obtain ⟨T, x1, x2, e1, e2, e3, f1, f2⟩ := y
      exact ⟨T, x1, x2, e1, e2, e3, f1 xs (.of (sj _ _ (sc _ _ hx))), fun _ => by rw [← gn]; exact f2 _ (.of (sj _ _ hc))⟩
  · refine .inr ⟨a, xs, rfl, .of hx, fun z => ?_, fun z c nc => ?_⟩
    · have lz : xs.length = 0 := by
        have z1 := z.1
        rw [show HT.sIx xs.length 0 (some 1) = min 1 xs.length from HT.sIx_nat xs.length 0 1] at z1
        omega
      refine ⟨a, a, xs, xs, rfl, .inr ⟨.of hx, .of hx, k _ _ (Same.refl _) ⟨fun j H' sj hj => by omega, fun H' sj => ⟨xs, xs, .of (sj _ _ hx), .of (sj _ _ hx), .inl (by omega)⟩, fun j x H' H'' sj y => ?_⟩⟩⟩
      obtain ⟨T, x1, x2, e1, e2, e3, f1, f2⟩ := y
      exact ⟨T, x1, x2, e1, e2, e3, f1 xs (.of (sj _ _ hx)), fun hj => by omega⟩
    · have sc : Same H (upd H c (.tup (cutV xs (some 1) none))) := fun b o z => by rw [upd_ne (ne_of_none z nc)]; exact z
      have hc : (upd H c (.tup (cutV xs (some 1) none))) c = some (.tup (xs.drop 1)) := by rw [upd_same, cutt_one]
      refine ⟨a, c, xs, xs.drop 1, rfl, .inr ⟨.of (sc _ _ hx), .of hc, k _ _ sc ⟨fun j H' sj hj => ?_, fun H' sj => ?_, fun j x H' H'' sj y => ?_⟩⟩⟩
      · exact ⟨xs, xs.drop 1, xs[j], xs[j + 1], .of (sj _ _ (sc _ _ hx)), .of (sj _ _ hc), List.getElem?_eq_getElem (by omega), by rw [gn]; exact List.getElem?_eq_getElem hj⟩
      · exact ⟨xs, xs.drop 1, .of (sj _ _ (sc _ _ hx)), .of (sj _ _ hc), .inr (by rw [List.length_drop]; exact Nat.le_refl _)⟩
      · obtain ⟨T, x1, x2, e1, e2, e3, f1, f2⟩ := y
        exact ⟨T, x1, x2, e1, e2, e3, f1 xs (.of (sj _ _ (sc _ _ hx))), fun _ => by rw [← gn]; exact f2 _ (.of (sj _ _ hc))⟩
end
/-! ### runs and states, dressed -/
def RunG (H : Hp) (v : V) (r : Run) : Prop := ∃ t, v = .ref t ∧ Sq2 H t [.str r.1, .int r.2]
def RunsG (H : Hp) (v : V) (rs : List Run) : Prop := ∃ a xs, v = .ref a ∧ Sq2 H a xs ∧ Paired (RunG H) xs rs
def StG (H : Hp) (v : V) : Option Run → Prop
  | none => v = .non
  | some r => RunG H v r
theorem RunG.same {H H' : Hp} {v : V} {r : Run} (s : Same H H') (h : RunG H v r) : RunG H' v r := by
  obtain ⟨t, e, h⟩ := h
  exact ⟨t, e, h.same s⟩
theorem RunsG.same {H H' : Hp} {v : V} {rs : List Run} (s : Same H H') (h : RunsG H v rs) : RunsG H' v rs := by
  obtain ⟨a, xs, e, hx, p⟩ := h
  exact ⟨a, xs, e, hx.same s, Paired.imp (fun _ _ => RunG.same s) p⟩
theorem StG.same {H H' : Hp} {v : V} {st : Option Run} (s : Same H H') (h : StG H v st) : StG H' v st := by
  cases st with
  | none => exact h
  | some r => exact RunG.same s h
theorem RunV.dress {H : Hp} {v : V} {r : Run} (h : RunV H v r) : RunG H v r := by
  obtain ⟨t, e, h⟩ := h
  exact ⟨t, e, .inr h⟩
theorem Runs.dress {H : Hp} {a : Addr} {rs : List Run} (h : Runs H a rs) : RunsG H (.ref a) rs := by
  obtain ⟨xs, hx, p⟩ := h
  exact ⟨a, xs, rfl, .inl hx, Paired.imp (fun _ _ => RunV.dress) p⟩
theorem StV.dress {H : Hp} {v : V} {st : Option Run} (h : StV H v st) : StG H v st := by
  cases st with
  | none => exact h
  | some r => exact RunV.dress h
theorem Sq2.but {H H' : Hp} {sp a : Addr} {xs : List V} (z : Spr H sp) (s : But sp H H') (h : Sq2 H a xs) (n : ∀ d e f, xs ≠ [.int d, .int e, .int f]) : Sq2 H' a xs := by
  obtain ⟨d, e, f, hs, _⟩ := z
  rcases h with h | h
  · exact .inl (s _ _ (ne_of h hs fun q => n d e f (HO.lst.inj q)) h)
  · exact .inr (s _ _ (ne_of h hs fun q => by cases q) h)
theorem RunG.but {H H' : Hp} {sp : Addr} {v : V} {r : Run} (z : Spr H sp) (s : But sp H H') (h : RunG H v r) : RunG H' v r := by
  obtain ⟨t, e, h⟩ := h
  exact ⟨t, e, h.but z s fun _ _ _ q => by cases q⟩
theorem RunsG.but {H H' : Hp} {sp : Addr} {v : V} {rs : List Run} (z : Spr H sp) (s : But sp H H') (h : RunsG H v rs) : RunsG H' v rs := by
  obtain ⟨a, xs, e, hx, p⟩ := h
  refine ⟨a, xs, e, hx.but z s fun d _ _ q => ?_, Paired.imp (fun _ _ => RunG.but z s) p⟩
  subst q
  cases p with
  | cons h _ =>
    obtain ⟨_, e, _⟩ := h
    cases e
theorem StG.but {H H' : Hp} {sp : Addr} {v : V} {st : Option Run} (z : Spr H sp) (s : But sp H H') (h : StG H v st) : StG H' v st := by
  cases st with
  | none => exact h
  | some r => exact RunG.but z s h
end UP

set_option Elab.async false
set_option linter.all false
set_option maxRecDepth 100000
set_option maxHeartbeats 4000000
set_option pp.maxSteps 500
/-! ### dicts whose keys are None and tuples, at the machine's level -/
namespace UP.Dx
open PySem
open Sem (wp)
/-- the value v is the key k, and is None or a tuple -/
structure KeyAt (h : Heap) (k : NestedKey) (v : Value) : Prop where
  tell : NestedIs h k v
  low : k.depth ≤ 8
  form : v = .none ∨ ∃ a, v = .ref a
theorem KeyAt.one {h : Heap} {v : Value} {x y : NestedKey} (p : KeyAt h x v) (q : KeyAt h y v) : x = y := NestedIs.inj x y v p.tell q.tell
/-- the entries es have the keys ks -/
structure Ents (w : World) (h : Heap) (es : Array DictEntry) (ks : List NestedKey) : Prop where
  len : ks.length = es.size
  ent : ∀ (i : Nat) (k : NestedKey), ks[i]? = some k → ∃ e, es[i]? = some e ∧ e.hash = k.hash w ∧ KeyAt h k e.key
  once : ks.Nodup
def place (ks : List NestedKey) (k : NestedKey) : Option Nat := ks.findIdx? fun x => decide (x = k)
theorem place_at {ks : List NestedKey} (nd : ks.Nodup) {i : Nat} {k : NestedKey} (h : ks[i]? = some k) : place ks k = some i := by
  obtain ⟨l, e⟩ := List.getElem?_eq_some_iff.mp h
  refine List.findIdx?_eq_some_iff_getElem.mpr ⟨l, decide_eq_true e, fun j hj z => ?_⟩
  have ej : ks[j]'(Nat.lt_trans hj l) = ks[i] := (of_decide_eq_true z).trans e.symm
  exact absurd ((List.getElem_inj nd).mp ej) (Nat.ne_of_lt hj)
theorem place_no {ks : List NestedKey} {k : NestedKey} (h : ∀ i : Nat, ks[i]? ≠ some k) : place ks k = none := by
  refine List.findIdx?_eq_none_iff.mpr fun x hx => decide_eq_false fun e => ?_
  obtain ⟨i, hi⟩ := List.getElem?_of_mem hx
  exact h i (by rw [hi, e])
theorem place_ok {ks : List NestedKey} {i : Nat} {k : NestedKey} (h : place ks k = some i) : ks[i]? = some k := by
  obtain ⟨l, e, _⟩ := List.findIdx?_eq_some_iff_getElem.mp h
  rw [List.getElem?_eq_getElem l, of_decide_eq_true e]
theorem place_none {ks : List NestedKey} {k : NestedKey} (h : place ks k = none) : k ∉ ks := fun hm => by
  have := List.findIdx?_eq_none_iff.mp h k hm
  rw [decide_eq_true rfl] at this
  cases this
section
variable {prog : Program} {w : World} {A : Around} {E : Value → Shared → Prop} {s : Shared}
theorem hash_of {k : NestedKey} {v : Value} {Q : Int → Shared → Prop} (hu : A.units + 8 < cLine) (hk : KeyAt s.heap k v) (q : Q (k.hash w) { s with toks := s.toks + k.draws }) : wpAny (model prog w) A (pyHash v) Q E s :=
  pyHash_key k v A s Q hk.tell (Nat.lt_of_le_of_lt (Nat.add_le_add_left hk.low _) hu) q
theorem same_of {x y : NestedKey} {a b : Value} {Q : Bool → Shared → Prop} (hu : A.units + 8 < cLine) (hx : KeyAt s.heap x a) (hy : KeyAt s.heap y b) (q : Q (decide (x = y)) s) : wpAny (model prog w) A (eqBool a b) Q E s := by
  refine eqAt_key x y A s a b hx.tell hy.tell (Nat.lt_of_le_of_lt (Nat.add_le_add_left (Nat.le_trans (Nat.min_le_left _ _) hx.low) _) hu) prog w E Q ?_
  rw [← NestedKey.decide_eq]
  exact q
theorem still_of {k : NestedKey} {v : Value} {Q : Bool → Shared → Prop} (hk : KeyAt s.heap k v) (q : Q true s) : wpAny (model prog w) A (eqIsQuiet 8 v) Q E s := quiet_key k v 8 s hk.tell hk.low A E Q q
/-- no key of these tells that it is compared -/
theorem mute {v : Value} {k : NestedKey} {l : List Value} {Q : Bool → Shared → Prop} (hk : KeyAt s.heap k v) (hl : ∀ u ∈ l, ∃ y, KeyAt s.heap y u) (q : Q false s) : wpAny (model prog w) A (tableMayTell v l) Q E s := by
  unfold tableMayTell
  split
  · exact wpAny_pure q
  refine wpAny_bind (still_of hk ?_)
  simp only [Bool.not_true, Bool.false_eq_true, if_false]
  refine wpAny_bind (wpAny_forIn_list _ (fun todo r t => (t = s ∧ r = (none, ())) ∧ ∀ u ∈ todo, ∃ y, KeyAt s.heap y u) _ ?_ ?_ _ _ ⟨⟨rfl, rfl⟩, hl⟩)
  · rintro u todo r t ⟨⟨rfl, rfl⟩, ok⟩
    obtain ⟨y, hy⟩ := ok u (List.mem_cons_self ..)
    refine wpAny_bind (still_of hy ?_)
    simp only [Bool.not_true, Bool.false_eq_true, if_false]
    exact wpAny_pure ⟨⟨rfl, rfl⟩, fun z hz => ok z (List.mem_cons_of_mem _ hz)⟩
  · rintro r t ⟨⟨rfl, rfl⟩, _⟩
    exact wpAny_pure q
variable {d : Addr} {v : Value} {o : Obj} {es : Array DictEntry} {ep : Nat} {ks : List NestedKey} {k : NestedKey}
theorem Ents.key {i : Nat} {e : DictEntry} (hE : Ents w s.heap es ks) (hi : es[i]? = some e) : ∃ y, ks[i]? = some y ∧ e.hash = y.hash w ∧ KeyAt s.heap y e.key := by
  have l : i < ks.length := by rw [hE.len]; exact (Array.getElem?_eq_some_iff.mp hi).1
  obtain ⟨e', h1, h2, h3⟩ := hE.ent i _ (List.getElem?_eq_getElem l)
  rw [hi] at h1
  cases h1
  exact ⟨_, List.getElem?_eq_getElem l, h2, h3⟩
theorem in_places (hE : Ents w s.heap es ks) {i : Nat} (h : ks[i]? = some k) : i ∈ placesWithHash es.size (fun i => es[i]?.map (·.hash)) (k.hash w) := by
  obtain ⟨e, h1, h2, _⟩ := hE.ent i k h
  unfold placesWithHash
  refine List.mem_filter.mpr ⟨List.mem_range.mpr (Array.getElem?_eq_some_iff.mp h1).1, ?_⟩
  show (es[i]?.map (·.hash) == some (NestedKey.hash w k)) = true
  rw [h1, Option.map_some, h2]
  exact beq_self_eq_true _
theorem places_lt {i : Nat} {n : Nat} {f : Nat → Option Int} {x : Int} (h : i ∈ placesWithHash n f x) : i < n ∧ f i = some x := by
  unfold placesWithHash at h
  obtain ⟨h1, h2⟩ := List.mem_filter.mp h
  exact ⟨List.mem_range.mp h1, eq_of_beq h2⟩
/-- what is known of the places gone through: none is k's, or p is -/
def Seen (ks : List NestedKey) (k : NestedKey) (gone : List Nat) : Option Nat → Prop
  | none => ∀ p ∈ gone, ks[p]? ≠ some k
  | some p => p ∈ gone ∧ ks[p]? = some k
theorem Seen.more {gone : List Nat} {hit : Option Nat} {x : Nat} (h : Seen ks k gone hit) (n : ks[x]? ≠ some k) : Seen ks k (gone ++ [x]) hit := by
  cases hit with
  | some p => exact ⟨List.mem_append_left _ h.1, h.2⟩
  | none =>
    intro p hp
    rcases List.mem_append.mp hp with z | z
    · exact h p z
    · rw [List.mem_singleton.mp z]
      exact n
theorem Seen.last (hE : Ents w s.heap es ks) {hit : Option Nat} (h : Seen ks k (placesWithHash es.size (fun i => es[i]?.map (·.hash)) (k.hash w)) hit) : place ks k = hit := by
  cases hit with
  | some p => exact place_at hE.once h.2
  | none => exact place_no fun i hi => h i (in_places hE hi) hi
theorem plain_find {Q : Option Nat → Shared → Prop} (hu : A.units + 8 < cLine) (hk : KeyAt s.heap k v) (ho : s.heap.get? d = some o) (hd : o.data = .dict es ep) (hE : Ents w s.heap es ks) (q : Q (place ks k) s) :
    wpAny (model prog w) A (dictWalkPlain d v (k.hash w) es (placesWithHash es.size (fun i => es[i]?.map (·.hash)) (k.hash w))) Q E s := by
  have lt : ∀ p ∈ placesWithHash es.size (fun i => es[i]?.map (·.hash)) (k.hash w), p < es.size := fun p hp => (places_lt hp).1
  have fin := fun hit => Seen.last (k := k) (hit := hit) hE
  unfold dictWalkPlain
  generalize placesWithHash es.size (fun i => es[i]?.map (·.hash)) (k.hash w) = ps at *
  refine wpAny_bind (wpAny_forIn_list _ (fun todo b t => (t = s ∧ b = (none, ())) ∧ ∃ gone, gone ++ todo = ps ∧ Seen ks k gone none) _ ?_ ?_ _ _ ⟨⟨rfl, rfl⟩, [], rfl, fun p hp => by cases hp⟩)
  · rintro x todo b t ⟨⟨rfl, rfl⟩, gone, eg, hs⟩
    have xl := lt x (by rw [← eg]; exact List.mem_append_right _ (List.mem_cons_self ..))
    obtain ⟨y, hy, h1, h2⟩ := hE.key (Array.getElem?_eq_getElem xl)
    have nxt : y ≠ k → ∃ gone, gone ++ todo = ps ∧ Seen ks k gone none := fun n => ⟨gone ++ [x], by rw [List.append_assoc]; exact eg, hs.more fun z => n (by rw [hy] at z; exact Option.some.inj z)⟩
    simp only [Array.getElem?_eq_getElem xl]
    split
    · refine wpAny_bind (wpAny_dictEpoch ho hd (wpAny_bind (same_of hu h2 hk (wpAny_bind (wpAny_dictEpoch ho hd ?_)))))
      simp only [bne_self_eq_false, Bool.false_eq_true, if_false]
      by_cases e : y = k
      · rw [decide_eq_true e]
        rw [place_at hE.once (by rw [hy, e])] at q
        exact wpAny_bind (wpAny_rule (wpAny_pure (wpAny_pure q)))
      · rw [decide_eq_false e]
        exact wpAny_bind (wpAny_rule (wpAny_pure ⟨⟨rfl, rfl⟩, nxt e⟩))
    · next n => exact wpAny_pure ⟨⟨rfl, rfl⟩, nxt fun e => n (by rw [h1, e]; exact beq_self_eq_true _)⟩
  · rintro b t ⟨⟨rfl, rfl⟩, gone, eg, hs⟩
    rw [List.append_nil] at eg
    subst eg
    refine wpAny_pure ?_
    rw [fin none hs] at q
    exact q
theorem find_k {Q : Option Nat → Shared → Prop} (hu : A.units + 8 < cLine) (hk : KeyAt s.heap k v) (ho : s.heap.get? d = some o) (hd : o.data = .dict es ep) (hE : Ents w s.heap es ks) (q : Q (place ks k) s) :
    wpAny (model prog w) A (dictFind d v (k.hash w)) Q E s := by
  have pf := plain_find (E := E) (prog := prog) hu hk ho hd hE q
  have lt : ∀ p ∈ placesWithHash es.size (fun i => es[i]?.map (·.hash)) (k.hash w), p < es.size := fun p hp => (places_lt hp).1
  have fin := fun hit => Seen.last (k := k) (hit := hit) hE
  have nd : (placesWithHash es.size (fun i => es[i]?.map (·.hash)) (k.hash w)).Nodup := List.nodup_range.filter _
  have st : ∀ u ∈ (placesWithHash es.size (fun i => es[i]?.map (·.hash)) (k.hash w)).filterMap (fun i => es[i]?.map (·.key)), ∃ y, KeyAt s.heap y u := fun u hu' => by
    obtain ⟨i, hi, e1⟩ := List.mem_filterMap.mp hu'
    have il := lt i hi
    rw [Array.getElem?_eq_getElem il, Option.map_some] at e1
    cases e1
    obtain ⟨y, _, _, h2⟩ := hE.key (Array.getElem?_eq_getElem il)
    exact ⟨y, h2⟩
  unfold dictFind
  try with_reducible refine wpAny_holding ?_
  refine wpAny_bind (wpAny_dictEntries ho hd ?_)
  generalize hps : placesWithHash es.size (fun i => es[i]?.map (·.hash)) (k.hash w) = ps at *
  rcases hk.form with ev | ⟨a, ev⟩
  · subst ev
    dsimp only
    by_cases c1 : (Value.none :: List.filterMap (fun i => es[i]?.map (·.key)) ps).all carriedByValue = true
    · rw [if_pos c1]
      exact pf
    rw [if_neg c1]
    by_cases c2 : (List.filterMap (fun i => es[i]?.map (·.key)) ps == [Value.none]) = true
    · rw [if_pos c2]
      refine wpAny_bind (wpAny_pure ?_)
      rw [if_neg (show ¬ (false && _) = true by rw [Bool.false_and]; exact Bool.false_ne_true)]
      refine wpAny_bind (wpAny_forIn_list _ (fun todo b t => t = s ∧ ∃ hit gone, b = (none, hit) ∧ gone ++ todo = ps ∧ Seen ks k gone hit) _ ?_ ?_ _ _ ⟨rfl, none, [], rfl, rfl, fun p hp => by cases hp⟩)
      · rintro x todo b t ⟨rfl, hit, gone, rfl, eg, hs⟩
        have xl := lt x (by rw [← eg]; exact List.mem_append_right _ (List.mem_cons_self ..))
        have eg2 : (gone ++ [x]) ++ todo = ps := by rw [List.append_assoc]; exact eg
        obtain ⟨y, hy, h1, h2⟩ := hE.key (Array.getElem?_eq_getElem xl)
        simp only [Array.getElem?_eq_getElem xl]
        split
        · refine wpAny_bind (wpAny_dictEpoch ho hd (wpAny_bind (same_of hu h2 hk (wpAny_bind (wpAny_dictEpoch ho hd ?_)))))
          rw [if_neg (show ¬ (ep != ep) = true by rw [bne_self_eq_false]; exact Bool.false_ne_true)]
          by_cases e : y = k
          · have hx : ks[x]? = some k := by rw [hy, e]
            rw [decide_eq_true e]
            cases hit with
            | some p =>
              have px := place_at hE.once hs.2
              rw [place_at hE.once hx] at px
              cases px
              rw [← eg, List.nodup_append] at nd
              exact absurd rfl (nd.2.2 _ hs.1 _ (List.mem_cons_self ..))
            | none =>
              simp only [if_true, Option.isSome_none, Bool.false_eq_true, if_false]
              refine wpAny_bind (wpAny_rule ?_)
              split
              · rw [place_at hE.once hx] at q
                exact wpAny_pure (wpAny_pure q)
              · exact wpAny_pure ⟨rfl, some x, gone ++ [x], rfl, eg2, List.mem_append_right _ (List.mem_cons_self ..), hx⟩
          · rw [decide_eq_false e]
            simp only [Bool.false_eq_true, if_false]
            exact wpAny_bind (wpAny_rule (wpAny_pure ⟨rfl, hit, gone ++ [x], rfl, eg2, hs.more fun z => e (by rw [hy] at z; exact Option.some.inj z)⟩))
        · next n => exact wpAny_pure ⟨rfl, hit, gone ++ [x], rfl, eg2, hs.more fun z => n (by rw [hy] at z; rw [h1, Option.some.inj z]; exact beq_self_eq_true _)⟩
      · rintro b t ⟨rfl, hit, gone, rfl, eg, hs⟩
        rw [List.append_nil] at eg
        subst eg
        rw [fin hit hs] at q
        exact wpAny_pure q
    · rw [if_neg c2]
      refine wpAny_bind (mute hk st ?_)
      rw [if_neg (show ¬ (false && _) = true by rw [Bool.false_and]; exact Bool.false_ne_true)]
      refine wpAny_bind (wpAny_forIn_list _ (fun todo b t => t = s ∧ ∃ hit gone, b = (none, hit) ∧ gone ++ todo = ps ∧ Seen ks k gone hit) _ ?_ ?_ _ _ ⟨rfl, none, [], rfl, rfl, fun p hp => by cases hp⟩)
      · rintro x todo b t ⟨rfl, hit, gone, rfl, eg, hs⟩
        have xl := lt x (by rw [← eg]; exact List.mem_append_right _ (List.mem_cons_self ..))
        have eg2 : (gone ++ [x]) ++ todo = ps := by rw [List.append_assoc]; exact eg
        obtain ⟨y, hy, h1, h2⟩ := hE.key (Array.getElem?_eq_getElem xl)
        simp only [Array.getElem?_eq_getElem xl]
        split
        · refine wpAny_bind (wpAny_dictEpoch ho hd (wpAny_bind (same_of hu h2 hk (wpAny_bind (wpAny_dictEpoch ho hd ?_)))))
          rw [if_neg (show ¬ (ep != ep) = true by rw [bne_self_eq_false]; exact Bool.false_ne_true)]
          by_cases e : y = k
          · have hx : ks[x]? = some k := by rw [hy, e]
            rw [decide_eq_true e]
            cases hit with
            | some p =>
              have px := place_at hE.once hs.2
              rw [place_at hE.once hx] at px
              cases px
              rw [← eg, List.nodup_append] at nd
              exact absurd rfl (nd.2.2 _ hs.1 _ (List.mem_cons_self ..))
            | none =>
              simp only [if_true, Option.isSome_none, Bool.false_eq_true, if_false]
              refine wpAny_bind (wpAny_rule ?_)
              split
              · rw [place_at hE.once hx] at q
                exact wpAny_pure (wpAny_pure q)
              · exact wpAny_pure ⟨rfl, some x, gone ++ [x], rfl, eg2, List.mem_append_right _ (List.mem_cons_self ..), hx⟩
          · rw [decide_eq_false e]
            simp only [Bool.false_eq_true, if_false]
            exact wpAny_bind (wpAny_rule (wpAny_pure ⟨rfl, hit, gone ++ [x], rfl, eg2, hs.more fun z => e (by rw [hy] at z; exact Option.some.inj z)⟩))
        · next n => exact wpAny_pure ⟨rfl, hit, gone ++ [x], rfl, eg2, hs.more fun z => n (by rw [hy] at z; rw [h1, Option.some.inj z]; exact beq_self_eq_true _)⟩
      · rintro b t ⟨rfl, hit, gone, rfl, eg, hs⟩
        rw [List.append_nil] at eg
        subst eg
        rw [fin hit hs] at q
        exact wpAny_pure q
  · subst ev
    dsimp only
    have no : ¬ (es.any fun e => e.key == Value.ref a && e.hash != k.hash w) = true := fun z => by
      obtain ⟨i, hi, z⟩ := Array.any_eq_true.mp z
      obtain ⟨y, _, h1, h2⟩ := hE.key (Array.getElem?_eq_getElem hi)
      rw [Bool.and_eq_true] at z
      rw [eq_of_beq z.1] at h2
      rw [h1, h2.one hk] at z
      simp at z
    rw [if_neg (show ¬ (Value.ref a :: List.filterMap (fun i => es[i]?.map (·.key)) ps).all carriedByValue = true by rw [List.all_cons]; exact Bool.false_ne_true), if_neg no]
    by_cases c2 : (List.filterMap (fun i => es[i]?.map (·.key)) ps == [Value.ref a]) = true
    · rw [if_pos c2]
      refine wpAny_bind (wpAny_pure ?_)
      rw [if_neg (show ¬ (false && _) = true by rw [Bool.false_and]; exact Bool.false_ne_true)]
      refine wpAny_bind (wpAny_forIn_list _ (fun todo b t => t = s ∧ ∃ hit gone, b = (none, hit) ∧ gone ++ todo = ps ∧ Seen ks k gone hit) _ ?_ ?_ _ _ ⟨rfl, none, [], rfl, rfl, fun p hp => by cases hp⟩)
      · rintro x todo b t ⟨rfl, hit, gone, rfl, eg, hs⟩
        have xl := lt x (by rw [← eg]; exact List.mem_append_right _ (List.mem_cons_self ..))
        have eg2 : (gone ++ [x]) ++ todo = ps := by rw [List.append_assoc]; exact eg
        obtain ⟨y, hy, h1, h2⟩ := hE.key (Array.getElem?_eq_getElem xl)
        simp only [Array.getElem?_eq_getElem xl]
        split
        · refine wpAny_bind (wpAny_dictEpoch ho hd (wpAny_bind (same_of hu h2 hk (wpAny_bind (wpAny_dictEpoch ho hd ?_)))))
          rw [if_neg (show ¬ (ep != ep) = true by rw [bne_self_eq_false]; exact Bool.false_ne_true)]
          by_cases e : y = k
          · have hx : ks[x]? = some k := by rw [hy, e]
            rw [decide_eq_true e]
            cases hit with
            | some p =>
              have px := place_at hE.once hs.2
              rw [place_at hE.once hx] at px
              cases px
              rw [← eg, List.nodup_append] at nd
              exact absurd rfl (nd.2.2 _ hs.1 _ (List.mem_cons_self ..))
            | none =>
              simp only [if_true, Option.isSome_none, Bool.false_eq_true, if_false]
              refine wpAny_bind (wpAny_rule ?_)
              split
              · rw [place_at hE.once hx] at q
                exact wpAny_pure (wpAny_pure q)
              · exact wpAny_pure ⟨rfl, some x, gone ++ [x], rfl, eg2, List.mem_append_right _ (List.mem_cons_self ..), hx⟩
          · rw [decide_eq_false e]
            simp only [Bool.false_eq_true, if_false]
            exact wpAny_bind (wpAny_rule (wpAny_pure ⟨rfl, hit, gone ++ [x], rfl, eg2, hs.more fun z => e (by rw [hy] at z; exact Option.some.inj z)⟩))
        · next n => exact wpAny_pure ⟨rfl, hit, gone ++ [x], rfl, eg2, hs.more fun z => n (by rw [hy] at z; rw [h1, Option.some.inj z]; exact beq_self_eq_true _)⟩
      · rintro b t ⟨rfl, hit, gone, rfl, eg, hs⟩
        rw [List.append_nil] at eg
        subst eg
        rw [fin hit hs] at q
        exact wpAny_pure q
    · rw [if_neg c2]
      refine wpAny_bind (mute hk st ?_)
      rw [if_neg (show ¬ (false && _) = true by rw [Bool.false_and]; exact Bool.false_ne_true)]
      refine wpAny_bind (wpAny_forIn_list _ (fun todo b t => t = s ∧ ∃ hit gone, b = (none, hit) ∧ gone ++ todo = ps ∧ Seen ks k gone hit) _ ?_ ?_ _ _ ⟨rfl, none, [], rfl, rfl, fun p hp => by cases hp⟩)
      · rintro x todo b t ⟨rfl, hit, gone, rfl, eg, hs⟩
        have xl := lt x (by rw [← eg]; exact List.mem_append_right _ (List.mem_cons_self ..))
        have eg2 : (gone ++ [x]) ++ todo = ps := by rw [List.append_assoc]; exact eg
        obtain ⟨y, hy, h1, h2⟩ := hE.key (Array.getElem?_eq_getElem xl)
        simp only [Array.getElem?_eq_getElem xl]
        split
        · refine wpAny_bind (wpAny_dictEpoch ho hd (wpAny_bind (same_of hu h2 hk (wpAny_bind (wpAny_dictEpoch ho hd ?_)))))
          rw [if_neg (show ¬ (ep != ep) = true by rw [bne_self_eq_false]; exact Bool.false_ne_true)]
          by_cases e : y = k
          · have hx : ks[x]? = some k := by rw [hy, e]
            rw [decide_eq_true e]
            cases hit with
            | some p =>
              have px := place_at hE.once hs.2
              rw [place_at hE.once hx] at px
              cases px
              rw [← eg, List.nodup_append] at nd
              exact absurd rfl (nd.2.2 _ hs.1 _ (List.mem_cons_self ..))
            | none =>
              simp only [if_true, Option.isSome_none, Bool.false_eq_true, if_false]
              refine wpAny_bind (wpAny_rule ?_)
              split
              · rw [place_at hE.once hx] at q
                exact wpAny_pure (wpAny_pure q)
              · exact wpAny_pure ⟨rfl, some x, gone ++ [x], rfl, eg2, List.mem_append_right _ (List.mem_cons_self ..), hx⟩
          · rw [decide_eq_false e]
            simp only [Bool.false_eq_true, if_false]
            exact wpAny_bind (wpAny_rule (wpAny_pure ⟨rfl, hit, gone ++ [x], rfl, eg2, hs.more fun z => e (by rw [hy] at z; exact Option.some.inj z)⟩))
        · next n => exact wpAny_pure ⟨rfl, hit, gone ++ [x], rfl, eg2, hs.more fun z => n (by rw [hy] at z; rw [h1, Option.some.inj z]; exact beq_self_eq_true _)⟩
      · rintro b t ⟨rfl, hit, gone, rfl, eg, hs⟩
        rw [List.append_nil] at eg
        subst eg
        rw [fin hit hs] at q
        exact wpAny_pure q
/-- at d stands a dict with these entries -/
def DictE (w : World) (h : Heap) (d : Addr) (es : Array DictEntry) (ks : List NestedKey) : Prop := ∃ o ep, h.get? d = some o ∧ o.ExactDict ∧ o.data = .dict es ep ∧ Ents w h es ks
theorem DictE.isDict (D : DictE w s.heap d es ks) : s.TypeIs (.ref d) "dict" := by
  obtain ⟨o, _, h1, h2, _⟩ := D
  exact ⟨o, h1, h2.1⟩
def gotE (es : Array DictEntry) (ks : List NestedKey) (k : NestedKey) : Option Value := (place ks k).bind fun i => es[i]?.map (·.val)
theorem look {Q : Option Value → Shared → Prop} (hu : A.units + 8 < cLine) (hk : KeyAt s.heap k v) (D : DictE w s.heap d es ks) (q : Q (gotE es ks k) { s with toks := s.toks + k.draws }) : wpAny (model prog w) A (dictGet d v) Q E s := by
  obtain ⟨o, ep, ho, _, hd, hE⟩ := D
  unfold dictGet
  try with_reducible refine wpAny_holding ?_
  refine wpAny_bind (hash_of hu hk (wpAny_bind (find_k (s := { s with toks := s.toks + k.draws }) hu hk ho hd hE ?_)))
  unfold gotE at q
  cases hp : place ks k with
  | none =>
    rw [hp] at q
    exact wpAny_pure q
  | some i =>
    rw [hp] at q
    exact wpAny_bind (wpAny_dictEntries (s := { s with toks := s.toks + k.draws }) ho hd (wpAny_pure q))
theorem KeyAt.stay {h h' : Heap} {k : NestedKey} {v : Value} (hk : KeyAt h k v) (ho : h.get? d = some o) (hd : o.data = .dict es ep) (sb : Heap.SameBut d h h') : KeyAt h' k v := by
  refine ⟨NestedIs.at (fun b ob l n e1 e2 => ?_) k v hk.tell, hk.low, hk.form⟩
  have nb : b ≠ d := fun z => by
    rw [z, ho] at e1
    cases e1
    rw [hd] at e2
    cases e2
  exact (sb.2 b nb).trans e1
theorem Ents.stay {h h' : Heap} (hE : Ents w h es ks) (ho : h.get? d = some o) (hd : o.data = .dict es ep) (sb : Heap.SameBut d h h') : Ents w h' es ks := by
  refine ⟨hE.len, fun i k hi => ?_, hE.once⟩
  obtain ⟨e, h1, h2, h3⟩ := hE.ent i k hi
  exact ⟨e, h1, h2, h3.stay ho hd sb⟩
theorem Ents.add {h : Heap} {x : Value} (hE : Ents w h es ks) (hk : KeyAt h k v) (n : place ks k = none) : Ents w h (es.push ⟨k.hash w, v, x⟩) (ks ++ [k]) := by
  refine ⟨by rw [List.length_append, Array.size_push, hE.len]; rfl, fun i y hi => ?_, ?_⟩
  · rcases Nat.lt_or_ge i ks.length with l | l
    · rw [List.getElem?_append_left l] at hi
      obtain ⟨e, h1, h2⟩ := hE.ent i y hi
      refine ⟨e, ?_, h2⟩
      rw [Array.getElem?_push, if_neg (by rw [← hE.len]; omega)]
      exact h1
    · rw [List.getElem?_append_right l] at hi
      have e0 : i - ks.length = 0 := by
        have := (List.getElem?_eq_some_iff.mp hi).1
        rw [List.length_singleton] at this
        omega
      rw [e0] at hi
      cases hi
      refine ⟨⟨k.hash w, v, x⟩, ?_, rfl, hk⟩
      rw [Array.getElem?_push, if_pos (by rw [← hE.len]; omega)]
  · refine List.nodup_append.mpr ⟨hE.once, List.nodup_cons.mpr ⟨List.not_mem_nil, List.nodup_nil⟩, fun a ha b hb => ?_⟩
    rw [List.mem_singleton.mp hb]
    exact fun z => place_none n (z ▸ ha)
theorem Ents.over {h : Heap} {i : Nat} {x : Value} (hE : Ents w h es ks) : Ents w h (es.modify i fun e => { e with val := x }) ks := by
  refine ⟨by rw [Array.size_modify]; exact hE.len, fun j y hj => ?_, hE.once⟩
  obtain ⟨e, h1, h2, h3⟩ := hE.ent j y hj
  rw [Array.getElem?_modify, h1]
  by_cases c : i = j
  · rw [if_pos c]
    exact ⟨_, rfl, h2, h3⟩
  · rw [if_neg c]
    exact ⟨_, rfl, h2, h3⟩
/-- the entries behind d[k] = x -/
def putE (w : World) (es : Array DictEntry) (ks : List NestedKey) (k : NestedKey) (v x : Value) : Array DictEntry × List NestedKey := match place ks k with
  | some i => (es.modify i fun e => { e with val := x }, ks)
  | none => (es.push ⟨k.hash w, v, x⟩, ks ++ [k])
theorem store {x : Value} {Q : Unit → Shared → Prop} (hu : A.units + 8 < cLine) (hk : KeyAt s.heap k v) (D : DictE w s.heap d es ks) (hz : es.size ≤ sizeLine)
    (q : ∀ h', DictE w h' d (putE w es ks k v x).1 (putE w es ks k v x).2 → Heap.SameBut d s.heap h' → Q () { s with heap := h', toks := s.toks + k.draws }) : wpAny (model prog w) A (dictSet d v x) Q E s := by
  obtain ⟨o, ep, ho, hc, hd, hE⟩ := D
  unfold dictSet
  try with_reducible refine wpAny_holding ?_
  refine wpAny_bind (hash_of hu hk ?_)
  unfold dictSetHashed
  try with_reducible refine wpAny_holding ?_
  refine wpAny_bind (find_k (s := { s with toks := s.toks + k.draws }) hu hk ho hd hE ?_)
  unfold putE at q
  cases hp : place ks k with
  | some i =>
    rw [hp] at q
    have sb : Heap.SameBut d s.heap (s.heap.update d (Obj.mapDict fun l => l.modify i fun e => { e with val := x })) := Heap.SameBut.update ..
    exact wpAny_bind (wpAny_rule (wpAny_bind (wpAny_updateDict (s := { s with toks := s.toks + k.draws }) ho hd (wpAny_point (q _ ⟨_, ep, Heap.get?_update_self _ ho (Obj.isFreed_of_dict (Obj.data_mapDict hd _)), hc.mapDict _, Obj.data_mapDict hd _, (hE.stay ho hd sb).over⟩ sb)))))
  | none =>
    rw [hp] at q
    have sb : Heap.SameBut d s.heap (s.heap.update d (Obj.mapDictKeys fun l => l.push ⟨k.hash w, v, x⟩)) := Heap.SameBut.update ..
    exact wpAny_bind (wpAny_rule (wpAny_updateDictKeys (hz := hz) (s := { s with toks := s.toks + k.draws }) ho hd (q _ ⟨_, ep + 1, Heap.get?_update_self _ ho (Obj.isFreed_of_dict (Obj.data_mapDictKeys hd _)), hc.mapDictKeys _, Obj.data_mapDictKeys hd _, (hE.stay ho hd sb).add (hk.stay ho hd sb) hp⟩ sb)))
theorem gotE_some : (gotE es ks k).isSome = true ↔ ∃ i e, place ks k = some i ∧ es[i]? = some e := by
  unfold gotE
  cases hp : place ks k with
  | none => simp
  | some i => cases he : es[i]? <;> simp [he]
/-- k in d -/
theorem has_k {Q : Value → Shared → Prop} (hu : A.units + 1 + 8 < cLine) (hk : KeyAt s.heap k v) (nm : (d == sysModules) = false) (D : DictE w s.heap d es ks) (q : Q (.bool (gotE es ks k).isSome) { s with toks := s.toks + k.draws }) :
    wpAny (model prog w) A (compareOp .In v (.ref d)) Q E s := by
  show wpAny _ _ (do return .bool (← contains (.ref d) v)) Q E s
  refine wpAny_bind (wpAny_contains_slot D.isDict F.slot_dict_contains (call_meetsIn F.slot_dict_contains D.isDict F.entry_dict_contains (F.args_dict_contains_2 _ _) (S := fun B R t => B = A ∧ t = s ∧ R (.ok (.ret (.bool (gotE es ks k).isSome))) { s with toks := s.toks + k.draws }) (fun B R t hS => ?_) ⟨rfl, rfl, wpAny_truthy_bool (wpAny_pure q)⟩))
  obtain ⟨rfl, rfl, hR⟩ := hS
  show wpAny _ _ (dictGet d v >>= _) _ _ _
  refine wpAny_bind (look (A := B.in1) hu hk D ?_)
  cases hg : gotE es ks k with
  | some x =>
    rw [hg] at hR
    show wpAny _ _ (ret (.bool true)) _ _ _
    exact wpAny_pure hR
  | none =>
    rw [hg] at hR
    show wpAny _ _ (Builtin.Dict.pendingKey? d v >>= _) _ _ _
    exact wpAny_bind (wpAny_pendingKey_other nm (wpAny_pure hR))
/-- d[k], which is there -/
theorem item_k {x : Value} {Q : Value → Shared → Prop} (hu : A.units + 1 + 8 < cLine) (hk : KeyAt s.heap k v) (D : DictE w s.heap d es ks) (g : gotE es ks k = some x) (q : Q x { s with toks := s.toks + k.draws }) : wpAny (model prog w) A (getItem (.ref d) v) Q E s := by
  unfold getItem
  try with_reducible refine wpAny_holding ?_
  refine wpAny_bind (wpAny_sequenceKey D.isDict (by decide) (wpAny_bind (wpAny_callSpecial?_slot (name := Str.ofString "__getitem__") D.isDict slot_dict_getitem (wpAny_call_entry slot_dict_getitem D.isDict entry_dict_getitem ?_ (args_dict_getitem _ _)))))
  show wpAny _ _ (dictGet d v >>= _) _ _ s
  refine wpAny_bind (look (A := A.in1) hu hk D ?_)
  rw [g]
  exact wpAny_pure ⟨x, rfl, wpAny_pure q⟩
/-- d[k] = x -/
theorem put_k {x : Value} {Q : Unit → Shared → Prop} (hu : A.units + 1 + 8 < cLine) (hk : KeyAt s.heap k v) (D : DictE w s.heap d es ks) (hz : es.size ≤ sizeLine)
    (q : ∀ h', DictE w h' d (putE w es ks k v x).1 (putE w es ks k v x).2 → Heap.SameBut d s.heap h' → Q () { s with heap := h', toks := s.toks + k.draws }) : wpAny (model prog w) A (setItem (.ref d) v x) Q E s := by
  unfold setItem
  try with_reducible refine wpAny_holding ?_
  refine wpAny_bind (wpAny_sequenceKey D.isDict (by decide) (wpAny_bind (wpAny_callSpecial?_slot (name := Str.ofString "__setitem__") D.isDict slot_dict_setitem (wpAny_call_entry slot_dict_setitem D.isDict entry_dict_setitem ?_ (args_dict_setitem _ _ _)))))
  show wpAny _ _ (Builtin.Dict.notOrdered "__setitem__" ⟨[.ref d, v, x], []⟩ >>= _) _ _ s
  refine wpAny_bind (wpAny_notOrdered_dict D.isDict ?_)
  show wpAny _ _ (dictSet d v x >>= _) _ _ s
  exact wpAny_bind (store (A := A.in1) hu hk D hz fun h' D' sb => wpAny_pure ⟨.none, rfl, wpAny_pure (q h' D' sb)⟩)
/-- d.get(k, x) -/
theorem get_k {x : Value} {Q : Value → Shared → Prop} (hu : A.units + 1 + 8 < cLine) (hk : KeyAt s.heap k v) (nm : (d == sysModules) = false) (D : DictE w s.heap d es ks) (q : Q ((gotE es ks k).getD x) { s with toks := s.toks + k.draws }) :
    wpAny (model prog w) A (call (.builtin "dict.get") [.ref d, v, x]) Q E s := by
  refine call_meetsIn F.slot_dict_get D.isDict F.entry_dict_get (F.args_dict_get_3 _ _ _) (S := fun B R t => B = A ∧ t = s ∧ R (.ok (.ret ((gotE es ks k).getD x))) { s with toks := s.toks + k.draws }) (fun B R t hS => ?_) ⟨rfl, rfl, q⟩
  obtain ⟨rfl, rfl, hR⟩ := hS
  show wpAny _ _ (dictGet d v >>= _) _ _ _
  refine wpAny_bind (look (A := B.in1) hu hk D ?_)
  cases hg : gotE es ks k with
  | some y =>
    rw [hg] at hR
    exact wpAny_pure hR
  | none =>
    rw [hg] at hR
    show wpAny _ _ (Builtin.Dict.missed d v >>= _) _ _ _
    exact wpAny_bind (wpAny_missed_other nm (wpAny_pure hR))
end
end UP.Dx

set_option Elab.async false
set_option linter.all false
set_option maxRecDepth 100000
set_option maxHeartbeats 4000000
set_option pp.maxSteps 500
/-! ### dicts whose keys are None and tuples: what the walks say of them -/
namespace UP
open PySem PySem.Spec PyProof.Rows L2
mutual
/-- the value v is the key k -/
inductive NK (H : Hp) : NestedKey → V → Prop
  | non : NK H .none .non
  | int (i : Int) : NK H (.num i) (.int i)
  | str (x : Str) : NK H (.text x) (.str x)
  | tup {a : Addr} {xs : List V} {ks : List NestedKey} : H a = some (.tup xs) → NKs H ks xs → NK H (.tup ks) (.ref a)
inductive NKs (H : Hp) : List NestedKey → List V → Prop
  | nil : NKs H [] []
  | cons {k : NestedKey} {v : V} {ks : List NestedKey} {vs : List V} : NK H k v → NKs H ks vs → NKs H (k :: ks) (v :: vs)
end
mutual
theorem NK.at {H H' : Hp} (t : ∀ a xs, H a = some (.tup xs) → H' a = some (.tup xs)) : ∀ {k : NestedKey} {v : V}, NK H k v → NK H' k v
  | _, _, .non => .non
  | _, _, .int i => .int i
  | _, _, .str x => .str x
  | _, _, .tup h r => .tup (t _ _ h) (NKs.at t r)
theorem NKs.at {H H' : Hp} (t : ∀ a xs, H a = some (.tup xs) → H' a = some (.tup xs)) : ∀ {ks : List NestedKey} {vs : List V}, NKs H ks vs → NKs H' ks vs
  | _, _, .nil => .nil
  | _, _, .cons h r => .cons (NK.at t h) (NKs.at t r)
end
mutual
theorem NK.is {P : Program} {w : World} {H : Hp} {h : Heap} (ok : HOk P w H h) : ∀ {k : NestedKey} {v : V} {u : Value}, NK H k v → RelV v u → NestedIs h k u
  | _, _, _, .non, r => by cases (show _ = Value.none from r); exact .none
  | _, _, _, .int i, r => by obtain ⟨t, rfl⟩ := (show ∃ t, _ = Value.int i t from r); exact .int i t
  | _, _, _, .str x, r => by obtain ⟨t, rfl⟩ := (show ∃ t, _ = Value.str x t from r); exact .text x t
  | _, _, _, .tup (a := a) (xs := xs) e q, r => by
    cases (show _ = Value.ref a from r)
    obtain ⟨_, its, rl, o, h1, h2, n, h3⟩ := (show ObjOk P w H h a (.tup xs) from ok a _ e)
    exact .tup h1 h2 h3 (by simpa using NKs.is ok q rl)
theorem NKs.is {P : Program} {w : World} {H : Hp} {h : Heap} (ok : HOk P w H h) : ∀ {ks : List NestedKey} {vs : List V} {us : List Value}, NKs H ks vs → Vals vs us → NestedAll h ks us
  | _, _, _, .nil, .nil => .nil
  | _, _, _, .cons x y, .cons r t => .cons (NK.is ok x r) (NKs.is ok y t)
end
abbrev RowX := NestedKey × V × V
/-- a key as these dicts have it: None or a tuple -/
structure KeyIn (H : Hp) (k : NestedKey) (v : V) : Prop where
  tell : NK H k v
  low : k.depth ≤ 8
  form : v = .non ∨ ∃ a, v = .ref a
theorem KeyIn.at {H H' : Hp} {k : NestedKey} {v : V} (x : KeyIn H k v) (t : ∀ a xs, H a = some (.tup xs) → H' a = some (.tup xs)) : KeyIn H' k v := ⟨x.tell.at t, x.low, x.form⟩
theorem KeyIn.same {H H' : Hp} {k : NestedKey} {v : V} (x : KeyIn H k v) (s : Same H H') : KeyIn H' k v := x.at fun a xs h => s a _ h
theorem KeyIn.is {P : Program} {w : World} {H : Hp} {h : Heap} {k : NestedKey} {v : V} {u : Value} (x : KeyIn H k v) (ok : HOk P w H h) (r : RelV v u) : Dx.KeyAt h k u := by
  refine ⟨x.tell.is ok r, x.low, ?_⟩
  rcases x.form with rfl | ⟨a, rfl⟩
  · exact .inl r
  · exact .inr ⟨a, r⟩
structure RowE (w : World) (r : RowX) (e : DictEntry) : Prop where
  hash : e.hash = r.1.hash w
  key : RelV r.2.1 e.key
  val : RelV r.2.2 e.val
def DX (w : World) (a : Addr) (rows : List RowX) : HO := .ext fun h => (a == sysModules) = false ∧ (rows.map (·.1)).Nodup ∧ ∃ o es ep, h.get? a = some o ∧ o.ExactDict ∧ o.data = .dict es ep ∧ Paired (RowE w) rows es.toList
/-- at a stands a dict with these rows -/
structure DXs (w : World) (H : Hp) (a : Addr) (rows : List RowX) : Prop where
  there : H a = some (DX w a rows)
  keys : ∀ r ∈ rows, KeyIn H r.1 r.2.1
theorem DXs.same {w : World} {H H' : Hp} {a : Addr} {rows : List RowX} (x : DXs w H a rows) (s : Same H H') : DXs w H' a rows := ⟨s a _ x.there, fun r hr => (x.keys r hr).same s⟩
theorem not_tup {w : World} {a : Addr} {rows : List RowX} {xs : List V} : DX w a rows ≠ .tup xs := fun z => by cases z
theorem upd_tups {w : World} {H : Hp} {a : Addr} {rows : List RowX} {o : HO} (h : H a = some (DX w a rows)) : ∀ b xs, H b = some (.tup xs) → upd H a o b = some (.tup xs) := fun b xs e => by
  have n : b ≠ a := fun z => by
    rw [z, h] at e
    exact not_tup (Option.some.inj e)
  rw [upd_ne n]
  exact e
/-- the value at a key -/
def valX (rows : List RowX) (k : NestedKey) : Option V := (Dx.place (rows.map (·.1)) k).bind fun i => rows[i]?.map (·.2.2)
def putX (rows : List RowX) (k : NestedKey) (y v : V) : List RowX := match Dx.place (rows.map (·.1)) k with
  | some i => rows.modify i fun r => (r.1, r.2.1, v)
  | none => rows ++ [(k, y, v)]
theorem valX_none {rows : List RowX} {k : NestedKey} : valX rows k = none ↔ k ∉ rows.map (·.1) := by
  unfold valX
  constructor
  · intro h hm
    cases hp : Dx.place (rows.map (·.1)) k with
    | none => exact Dx.place_none hp hm
    | some i =>
      rw [hp] at h
      have := Dx.place_ok hp
      rw [List.getElem?_map] at this
      cases hr : rows[i]? with
      | none => rw [hr] at this; cases this
      | some r => simp [hr] at h
  · intro h
    rw [Dx.place_no fun i hi => h (List.mem_of_getElem? hi)]
    rfl
theorem valX_isSome {rows : List RowX} {k : NestedKey} : (valX rows k).isSome = decide (k ∈ rows.map (·.1)) := by
  by_cases h : k ∈ rows.map (·.1)
  · rw [decide_eq_true h]
    cases e : valX rows k with
    | none => exact absurd h (valX_none.mp e)
    | some x => rfl
  · rw [decide_eq_false h, valX_none.mpr h]
    rfl
theorem putX_new {rows : List RowX} {k : NestedKey} {y v : V} (h : k ∉ rows.map (·.1)) : putX rows k y v = rows ++ [(k, y, v)] := by
  unfold putX
  rw [Dx.place_no fun i hi => h (List.mem_of_getElem? hi)]
theorem modify_keys {rows : List RowX} {i : Nat} {v : V} : (rows.modify i fun r => (r.1, r.2.1, v)).map (·.1) = rows.map (·.1) := by
  refine List.ext_getElem? fun j => ?_
  rw [List.getElem?_map, List.getElem?_map, List.getElem?_modify]
  cases rows[j]? with
  | none => rfl
  | some r =>
    by_cases c : i = j
    · simp [c]
    · simp [c]
theorem paired_get {α β : Type} {F : α → β → Prop} : ∀ {l : List α} {m : List β} {i : Nat}, Paired F l m → (l[i]? = none ∧ m[i]? = none) ∨ ∃ a b, l[i]? = some a ∧ m[i]? = some b ∧ F a b
  | _, _, _, .nil => .inl ⟨by simp, by simp⟩
  | _, _, 0, .cons h _ => .inr ⟨_, _, rfl, rfl, h⟩
  | _, _, i + 1, .cons _ t => by
    rcases paired_get (i := i) t with ⟨h1, h2⟩ | ⟨a, b, h1, h2, h3⟩
    · exact .inl ⟨by simpa using h1, by simpa using h2⟩
    · exact .inr ⟨a, b, by simpa using h1, by simpa using h2, h3⟩
theorem paired_modify {α β : Type} {F : α → β → Prop} {f : α → α} {g : β → β} (fg : ∀ a b, F a b → F (f a) (g b)) : ∀ {l : List α} {m : List β} (i : Nat), Paired F l m → Paired F (l.modify i f) (m.modify i g)
  | _, _, i, .nil => by cases i <;> exact .nil
  | _, _, 0, .cons h t => .cons (fg _ _ h) t
  | _, _, i + 1, .cons h t => .cons h (paired_modify fg i t)
section
variable {X : Cx} {pins : List (Addr × Obj)} {σ : L2.St} {H : Hp} {s : Shared} {a : Addr} {A : Around} {E : Value → Shared → Prop} {rows : List RowX} {k : NestedKey} {y v : V} {u r : Value} {P : Program} {w : World} {h : Heap}
theorem DXs.ents (D : DXs w H a rows) (ok : HOk P w H h) : (a == sysModules) = false ∧ ∃ es, Dx.DictE w h a es (rows.map (·.1)) ∧ Paired (RowE w) rows es.toList := by
  obtain ⟨⟨hd, nd, o, es, ep, h1, h2, h3, pr⟩, _, _⟩ := (show ObjOk P w H h a (DX w a rows) from ok a _ D.there)
  refine ⟨hd, es, ⟨o, ep, h1, h2, h3, ⟨by rw [List.length_map, Paired.length pr, Array.length_toList], fun i k hi => ?_, nd⟩⟩, pr⟩
  rw [List.getElem?_map] at hi
  rcases paired_get (i := i) pr with ⟨e1, _⟩ | ⟨r, e, e1, e2, e3⟩
  · rw [e1] at hi; cases hi
  · rw [e1] at hi
    cases hi
    exact ⟨e, by simpa using e2, e3.hash, (D.keys r (List.mem_of_getElem? e1)).is ok e3.key⟩
theorem got_rel {es : Array DictEntry} (pr : Paired (RowE w) rows es.toList) (k : NestedKey) : RelO (valX rows k) (Dx.gotE es (rows.map (·.1)) k) := by
  unfold valX Dx.gotE
  cases Dx.place (rows.map (·.1)) k with
  | none => trivial
  | some i =>
    show RelO (rows[i]?.map _) (es[i]?.map _)
    rw [← Array.getElem?_toList]
    rcases paired_get (i := i) pr with ⟨e1, e2⟩ | ⟨r, e, e1, e2, e3⟩
    · rw [e1, e2]; trivial
    · rw [e1, e2]; exact e3.val
theorem put_rel {es : Array DictEntry} (pr : Paired (RowE w) rows es.toList) (ry : RelV y u) (rv : RelV v r) : Paired (RowE w) (putX rows k y v) (Dx.putE w es (rows.map (·.1)) k u r).1.toList ∧ (putX rows k y v).map (·.1) = (Dx.putE w es (rows.map (·.1)) k u r).2 := by
  unfold putX Dx.putE
  cases Dx.place (rows.map (·.1)) k with
  | none =>
    refine ⟨?_, by rw [List.map_append]; rfl⟩
    show Paired _ _ (es.push _).toList
    rw [Array.toList_push]
    exact Paired.snoc pr ⟨rfl, ry, rv⟩
  | some i =>
    refine ⟨?_, modify_keys⟩
    show Paired _ _ (es.modify i _).toList
    rw [Array.toList_modify]
    exact paired_modify (fun x e z => ⟨z.hash, z.key, rv⟩) i pr
theorem putX_keys {x : RowX} (hx : x ∈ putX rows k y v) : x.1 = k ∧ x.2.1 = y ∨ ∃ z ∈ rows, z.1 = x.1 ∧ z.2.1 = x.2.1 := by
  unfold putX at hx
  cases hp : Dx.place (rows.map (·.1)) k with
  | none =>
    rw [hp] at hx
    rcases List.mem_append.mp hx with z | z
    · exact .inr ⟨x, z, rfl, rfl⟩
    · rw [List.mem_singleton.mp z]
      exact .inl ⟨rfl, rfl⟩
  | some i =>
    rw [hp] at hx
    obtain ⟨j, hj⟩ := List.getElem?_of_mem hx
    rw [List.getElem?_modify] at hj
    cases hr : rows[j]? with
    | none => rw [hr] at hj; cases hj
    | some z =>
      rw [hr] at hj
      refine .inr ⟨z, List.mem_of_getElem? hr, ?_⟩
      replace hj : (if i = j then (z.1, z.2.1, v) else z) = x := Option.some.inj hj
      by_cases c : i = j
      · rw [if_pos c] at hj
        rw [← hj]
        exact ⟨rfl, rfl⟩
      · rw [if_neg c] at hj
        rw [← hj]
        exact ⟨rfl, rfl⟩
theorem DXs.put (D : DXs w H a rows) (K : KeyIn H k y) : DXs w (upd H a (DX w a (putX rows k y v))) a (putX rows k y v) :=
  ⟨upd_same, fun x hx => by
    rcases putX_keys hx with ⟨e1, e2⟩ | ⟨z, hz, e1, e2⟩
    · rw [e1, e2]
      exact K.at (upd_tups D.there)
    · rw [← e1, ← e2]
      exact (D.keys z hz).at (upd_tups D.there)⟩
/-- y in d -/
theorem x_in {Q : Value → Shared → Prop} (hu : A.units + 65 < cLine) (I : Inv X pins σ H s) (D : DXs X.w H a rows) (K : KeyIn H k y) (ry : RelV y u) (h : ∀ s', Inv X pins σ H s' → Q (.bool (valX rows k).isSome) s') :
    wpAny (model X.prog X.w) A (compareOp .In u (.ref a)) Q E s := by
  obtain ⟨hd, es, dd, pr⟩ := D.ents I.hok
  refine Dx.has_k (k := k) (by omega) (K.is I.hok ry) hd dd ?_
  rw [← (got_rel pr k).isSome_eq]
  exact h _ (I.tok _)
/-- d[y] -/
theorem x_item {Q : Value → Shared → Prop} (hu : A.units + 65 < cLine) (I : Inv X pins σ H s) (D : DXs X.w H a rows) (K : KeyIn H k y) (ry : RelV y u) (g : valX rows k = some v) (h : ∀ w' s', Inv X pins σ H s' → RelV v w' → Q w' s') :
    wpAny (model X.prog X.w) A (getItem (.ref a) u) Q E s := by
  obtain ⟨hd, es, dd, pr⟩ := D.ents I.hok
  have q := got_rel pr k
  rw [g] at q
  obtain ⟨x, hx, rx⟩ := RelO.some_of q
  exact Dx.item_k (k := k) (by omega) (K.is I.hok ry) dd hx (h x _ (I.tok _) rx)
theorem x_new {es : Array DictEntry} {h' : Heap} (hd : (a == sysModules) = false) (pr : Paired (RowE w) rows es.toList) (dd : Dx.DictE w h' a es (rows.map (·.1))) : ObjOk P w H h' a (DX w a rows) := by
  obtain ⟨o, ep, h1, h2, h3, hE⟩ := dd
  exact ⟨⟨hd, hE.once, o, es, ep, h1, h2, h3, pr⟩, ⟨o, h1⟩, fun _ _ ⟨p1, p2, o, es, ep, q1, q2, q3, q4⟩ st => ⟨p1, p2, o, es, ep, st _ q1, q2, q3, q4⟩⟩
/-- d[y] = v -/
theorem x_setItem {Q : Unit → Shared → Prop} (hu : A.units + 65 < cLine) (I : Inv X pins σ H s) (D : DXs X.w H a rows) (K : KeyIn H k y) (hz : rows.length ≤ sizeLine) (ry : RelV y u) (rv : RelV v r) (h : ∀ s', Inv X pins σ (upd H a (DX X.w a (putX rows k y v))) s' → Q () s') :
    wpAny (model X.prog X.w) A (setItem (.ref a) u r) Q E s := by
  obtain ⟨hd, es, dd, pr⟩ := D.ents I.hok
  refine Dx.put_k (k := k) (by omega) (K.is I.hok ry) dd (by rw [← Array.length_toList, ← Paired.length pr]; exact hz) fun h' dd' sb => h _ ?_
  obtain ⟨p1, p2⟩ := put_rel (k := k) pr ry rv
  refine d_write I (by rw [D.there]; exact True.intro) sb (let ⟨o, _, h1, _⟩ := dd'; ⟨o, h1⟩) (x_new hd p1 ?_)
  rw [p2]
  exact dd'
theorem x_store {Q : Unit → Shared → Prop} (hu : A.units + 65 < cLine) (I : Inv X pins σ H s) (D : DXs X.w H a rows) (K : KeyIn H k y) (hz : rows.length ≤ sizeLine) (ry : RelV y u) (rv : RelV v r) (h : ∀ s', Inv X pins σ (upd H a (DX X.w a (putX rows k y v))) s' → Q () s') :
    wpAny (model X.prog X.w) A (dictSet a u r) Q E s := by
  obtain ⟨hd, es, dd, pr⟩ := D.ents I.hok
  refine Dx.store (k := k) (by omega) (K.is I.hok ry) dd (by rw [← Array.length_toList, ← Paired.length pr]; exact hz) fun h' dd' sb => h _ ?_
  obtain ⟨p1, p2⟩ := put_rel (k := k) pr ry rv
  refine d_write I (by rw [D.there]; exact True.intro) sb (let ⟨o, _, h1, _⟩ := dd'; ⟨o, h1⟩) (x_new hd p1 ?_)
  rw [p2]
  exact dd'
theorem x_typeIs (I : Inv X pins σ H s) (D : DXs X.w H a rows) : s.TypeIs (.ref a) "dict" := by
  obtain ⟨_, es, dd, _⟩ := D.ents I.hok
  exact dd.isDict
theorem x_empty (h : Heap) (hb : sysModules < h.objs.size) : ObjOk P w H (h.push { cls := .type "dict", data := .dict #[] }) h.objs.size (DX w h.objs.size []) :=
  ⟨⟨beq_eq_false_iff_ne.mpr (Ne.symm (Nat.ne_of_lt hb)), List.nodup_nil, _, #[], 0, Heap.get?_push_size _ rfl, ⟨rfl, rfl, rfl⟩, rfl, .nil⟩, ⟨_, Heap.get?_push_size _ rfl⟩, fun _ _ ⟨p1, p2, o, es, ep, q1, q2, q3, q4⟩ st => ⟨p1, p2, o, es, ep, st _ q1, q2, q3, q4⟩⟩
end
/-! readings and rules -/
def rInX (w : World) : V → V → Hp → VK → Prop := fun y x H Q => ∃ (a : Addr) (rows : List RowX) (k : NestedKey), x = .ref a ∧ DXs w H a rows ∧ KeyIn H k y ∧ Q (.bl (valX rows k).isSome) H
def tDGetX (w : World) (td ty : TE) : TE := fun σ H Q => td σ H fun x H1 => ty σ H1 fun y H2 => ∃ (a : Addr) (rows : List RowX) (k : NestedKey) (v : V), x = .ref a ∧ DXs w H2 a rows ∧ KeyIn H2 k y ∧ valX rows k = some v ∧ Q v H2
def sDPutX (w : World) (td ty tv : TE) : TS := fun D σ H => tv σ H fun v H1 => td σ H1 fun x H2 => ty σ H2 fun y H3 => ∃ (a : Addr) (rows : List RowX) (k : NestedKey), x = .ref a ∧ DXs w H3 a rows ∧ KeyIn H3 k y ∧ rows.length ≤ sizeLine ∧ D.nx σ (upd H3 a (DX w a (putX rows k y v)))
def tDNewX (w : World) : TE := fun _ H Q => ∀ p, H p = none → Q (.ref p) (upd H p (DX w p []))
/-- {y: v} -/
def tDOneX (w : World) (ty tv : TE) : TE := fun σ H Q => ∀ p, H p = none → ty σ (upd H p (DX w p [])) fun y H1 => tv σ H1 fun v H2 => H2 p = some (DX w p []) ∧ ∃ k : NestedKey, KeyIn H2 k y ∧ Q (.ref p) (upd H2 p (DX w p [(k, y, v)]))
section
variable {X : Cx} {o i e value : Expr} {pos pos' tpos : Pos} {td ty tv : TE} {w : World}
theorem op_inX (hw : X.w = w) (hu : X.A.units + 65 < cLine) : OpR X (compareOp .In) (rInX w) := by
  subst hw
  rintro pins s σ H y x u r Q I ry rx ⟨a, rows, k, rfl, D, K, q⟩
  cases (show r = Value.ref a from rx)
  exact x_in hu I D K ry fun s' I' => ⟨.bl (valX rows k).isSome, H, I', rfl, q⟩
theorem pe_dgetX (hw : X.w = w) (hu : X.A.units + 65 < cLine) (ho : PE X o td) (hi : PE X i ty) (hs : NoSl i) : PE X (.Subscript o i pos) (tDGetX w td ty) := by
  subst hw
  refine ⟨fun pins s σ H Q I h => ?_⟩
  refine subD_of PySem.F.slot_dict_getitem.lookup hs (thn (ho.run pins s σ H _ I h) fun u s1 ⟨x, H1, I1, rx, q1⟩ => thn (hi.run pins s1 σ H1 _ I1 q1) fun iv s2 ⟨y, H2, I2, ry, a, rows, k, v, ex, D, K, g, q2⟩ => ?_)
  subst ex
  obtain rfl : u = Value.ref a := rx
  exact ⟨x_typeIs I2 D, x_item hu I2 D K ry g fun w' s3 I3 rw' => ⟨v, H2, I3, rw', q2⟩⟩
theorem ps_dputX (hw : X.w = w) (hu : X.A.units + 65 < cLine) (ho : PE X o td) (hi : PE X i ty) (hv : PE X value tv) (hs : swapsWith value (some (.Subscript o i pos')) pos.line X.env = pure false) :
    PS X (.Assign [.Subscript o i pos'] value pos) (sDPutX w td ty tv) := by
  subst hw
  refine ⟨fun pins s σ H D I h => ?_⟩
  refine wpAny_Assign_Subscript (thn (hv.run pins s σ H _ I h) fun r s1 ⟨v, H1, I1, rv, q1⟩ => thn (ho.run pins s1 σ H1 _ I1 q1) fun u s2 ⟨x, H2, I2, rx, q2⟩ => thn (hi.run pins s2 σ H2 _ I2 q2) fun iv s3 ⟨y, H3, I3, ry, a, rows, k, ex, g, K, hz, q3⟩ => ?_) hs
  subst ex
  obtain rfl : u = Value.ref a := rx
  exact x_setItem hu I3 g K hz ry rv fun s4 I4 => ⟨σ, _, I4, q3⟩
theorem pe_dnewX (hw : X.w = w) : PE X (.Dict [] [] pos) (tDNewX w) := by
  subst hw
  exact ⟨fun pins s σ H Q I h => wpAny_Dict_empty ⟨.ref s.heap.objs.size, _, I.laid (a := s.heap.objs.size) (o := DX X.w s.heap.objs.size []) (t' := s.toks) (fun _ _ q => Heap.get?_push_of_some _ q) (Nat.le_refl _) (x_empty s.heap I.big), rfl, h _ (I.hok.fresh (Nat.le_refl _))⟩⟩
theorem pe_doneX (hw : X.w = w) (hu : X.A.units + 65 < cLine) (hk : PE X i ty) (hv : PE X value tv) : PE X (.Dict [some i] [value] pos) (tDOneX w ty tv) := by
  subst hw
  refine ⟨fun pins s σ H Q I q => ?_⟩
  have hn := I.hok.fresh (Nat.le_refl s.heap.objs.size)
  have I1 := I.laid (a := s.heap.objs.size) (o := DX X.w s.heap.objs.size []) (h' := s.heap.push { cls := .type "dict", data := .dict #[] }) (t' := s.toks) (fun _ _ q => Heap.get?_push_of_some _ q) (Nat.le_refl _) (x_empty s.heap I.big)
  refine wpAny_Dict_any rfl rfl (fun z => by cases z) (show 1 ≤ 15 by decide) (pairTrees_cons_walk (thn (hk.run pins _ σ _ _ I1 (q _ hn)) fun u s1 ⟨y, H1, I1, ry, q1⟩ => thn (hv.run pins s1 σ H1 _ I1 q1) fun r s2 ⟨v, H2, I2, rv, e, k, K, q2⟩ => pairTrees_nil_walk ?_))
  unfold storeAll
  rw [List.forIn_cons]
  refine wpAny_bind (wpAny_bind (x_store hu I2 ⟨e, fun r hr => by cases hr⟩ K (Nat.zero_le _) ry rv fun s3 I3 => wpAny_pure ?_))
  show wpAny _ _ (forIn [] PUnit.unit _) _ _ _
  rw [List.forIn_nil]
  exact wpAny_pure ⟨.ref s.heap.objs.size, _, I3, rfl, q2⟩
end
end UP

set_option Elab.async false
set_option linter.all false
set_option maxRecDepth 100000
set_option maxHeartbeats 4000000
set_option pp.maxSteps 600
/-! walking over a dict whose keys are None and tuples: as long as the walk lasts, the dict is one object (DF) -/
namespace UP
open PySem PySem.Spec PyProof.Rows L2
/-- what the object o holds -/
def RowsO (w : World) (d : Addr) (rows : List RowX) (o : Obj) : Prop := (d == sysModules) = false ∧ (rows.map (·.1)).Nodup ∧ o.ExactDict ∧ ∃ es ep, o.data = .dict es ep ∧ Paired (RowE w) rows es.toList
def DF (w : World) (d : Addr) (rows : List RowX) (o : Obj) : HO := .ext fun h => h.get? d = some o ∧ RowsO w d rows o
theorem df_ok {P : Program} {w : World} {H : Hp} {h : Heap} {d : Addr} {rows : List RowX} {o : Obj} (ho : h.get? d = some o) (r : RowsO w d rows o) : ObjOk P w H h d (DF w d rows o) :=
  ⟨⟨ho, r⟩, ⟨o, ho⟩, fun _ _ ⟨p1, p2⟩ st => ⟨st _ p1, p2⟩⟩
theorem df_of {P : Program} {w : World} {H : Hp} {h : Heap} {d : Addr} {rows : List RowX} {o : Obj} (ok : HOk P w H h) (e : H d = some (DF w d rows o)) : h.get? d = some o ∧ RowsO w d rows o := by
  obtain ⟨q, _, _⟩ := (show ObjOk P w H h d (DF w d rows o) from ok d _ e)
  exact q
def Itx (w : World) (d : Addr) (o : Obj) (rows : List RowX) : It := ⟨fun i H => H d = some (DF w d rows o) ∧ i < rows.length, fun i H x H' => H' = H ∧ ∃ r, rows[i]? = some r ∧ x = r.2.1, fun i H => H d = some (DF w d rows o) ∧ rows.length ≤ i⟩
theorem paired_len2 {α β : Type} {F : α → β → Prop} {l : List α} {m : List β} (h : Paired F l m) : l.length = m.length := by
  induction h with
  | nil => rfl
  | cons _ _ ih => rw [List.length_cons, List.length_cons, ih]
theorem turn_keysX {P : Program} {w : World} {K : PySem.W.Frag} {tg : Expr} {d : Addr} {o : Obj} {rows : List RowX} {es : Array DictEntry} {ep : Nat} (it : Addr) (hod : o.data = .dict es ep) : Turn P w K tg (Itx w d o rows) [it] it (fun i h => h.IsKeyIter it d i rows.length ep) where
  mem := List.mem_singleton.mpr rfl
  obj := fun i h st b hb => by
    rw [List.mem_singleton.mp hb]
    obtain ⟨oi, g, _, dd⟩ := st
    exact ⟨oi, g, fun v z => by rw [dd] at z; cases z⟩
  keep := fun i h h' st k => st.at fun oi g => k it (List.mem_singleton.mpr rfl) oi g
  item := by
    intro X hP hw hK hc i pins s σ H E I hf st hg
    subst hP hw hK
    obtain ⟨hd, hi⟩ := hg
    obtain ⟨f0, f1, f2, f3, f4, f5⟩ := hf it (List.mem_singleton.mpr rfl)
    obtain ⟨ho, _, _, _, es', ep', hdt, pr⟩ := df_of I.hok hd
    have ee : es' = es ∧ ep' = ep := by
      rw [hod] at hdt
      cases hdt
      exact ⟨rfl, rfl⟩
    obtain ⟨rfl, rfl⟩ := ee
    have hl := paired_len2 pr
    rcases paired_get (i := i) pr with ⟨n, _⟩ | ⟨r, en, hr, hen, row⟩
    · rw [List.getElem?_eq_getElem hi] at n
      cases n
    refine next_key_item (en := en) st ho hdt (by rw [hl, Array.length_toList]) (by rw [← Array.getElem?_toList]; exact hen) fun h' st' sb => ?_
    have I1 : Inv X pins σ H { s with heap := h' } := I.turned (t' := s.toks) (fun b ob hb q => (sb.2 b hb).trans q) f0 f1 f3 f4 f5
    obtain ⟨oi, g, c, dd⟩ := id st'
    exact ⟨en.key, rfl, go_of (s := { s with heap := h' }) g c dd (by decide) ⟨r.2.1, H, I1, row.key, ⟨rfl, r, hr, rfl⟩, st', fun b hb => (hf b hb).1⟩⟩
  done := by
    intro X hP hw hK hc i pins s σ H E I hf st hg
    subst hP hw hK
    obtain ⟨hd, hi⟩ := hg
    obtain ⟨f0, f1, f2, f3, f4, f5⟩ := hf it (List.mem_singleton.mpr rfl)
    obtain ⟨ho, _, _, _, es', ep', hdt, pr⟩ := df_of I.hok hd
    have ee : es' = es ∧ ep' = ep := by
      rw [hod] at hdt
      cases hdt
      exact ⟨rfl, rfl⟩
    obtain ⟨rfl, rfl⟩ := ee
    have hl := paired_len2 pr
    exact next_key_end (I.ok.hd hc) st ho hdt (by rw [hl, Array.length_toList]) hi fun h' eb => ⟨rfl, I.turned (t' := s.toks) (fun b ob hb q => eb b ob hb q) f0 f1 f3 f4 f5⟩
  self := fun A i s Q E st q => wpAny_pyIter_keyiter st q
/-- the dict is held while it is walked over -/
def iKeysX (w : World) (td : TE) : TI := fun σ H R => td σ H fun x H1 => ∃ d rows, x = .ref d ∧ DXs w H1 d rows ∧ ∀ o, R (Itx w d o rows) (upd H1 d (DF w d rows o))
theorem hold_dx {X : Cx} {pins : List (Addr × Obj)} {σ : L2.St} {H : Hp} {s : Shared} {d : Addr} {rows : List RowX} (I : Inv X pins σ H s) (D : DXs X.w H d rows) : ∃ o es ep, s.heap.get? d = some o ∧ o.data = .dict es ep ∧ RowsO X.w d rows o ∧ Inv X pins σ (upd H d (DF X.w d rows o)) s := by
  obtain ⟨hd, es, dd, pr⟩ := D.ents I.hok
  obtain ⟨o, ep, h1, h2, h3, hE⟩ := dd
  have r : RowsO X.w d rows o := ⟨hd, hE.once, h2, es, ep, h3, pr⟩
  exact ⟨o, es, ep, h1, h3, r, d_write (h' := s.heap) (t' := s.toks) I (by rw [D.there]; exact True.intro) (Heap.SameBut.refl d s.heap) ⟨o, h1⟩ (df_ok h1 r)⟩
theorem pi_keysX {X : Cx} {tg e : Expr} {td : TE} {w : World} (hw : X.w = w) (he : PE X e td) : PI X tg e (iKeysX w td) := by
  subst hw
  refine ⟨fun pins s σ H R I h => ?_⟩
  refine thn (he.run pins s σ H _ I h) fun u s1 ⟨x, H1, I1, rx, d, rows, ex, D, q⟩ => ?_
  subst ex
  obtain rfl : u = Value.ref d := rx
  obtain ⟨o, es, ep, ho, hdt, r, I2⟩ := hold_dx I1 D
  obtain ⟨hd, _, hx, es', ep', hdt', pr⟩ := r
  have hl := paired_len2 pr
  have ee : es' = es ∧ ep' = ep := by
    rw [hdt] at hdt'
    cases hdt'
    exact ⟨rfl, rfl⟩
  obtain ⟨rfl, rfl⟩ := ee
  refine iter_keys hd ho hx hdt (pi_one (tk := s1.toks) I2 _ (turn_keysX _ hdt) ⟨_, Heap.get?_push_size _ rfl, rfl, ?_⟩ (q o))
  rw [hl, Array.length_toList]
  rfl
theorem walk_keysX {w : World} {d : Addr} {o : Obj} {rows : List RowX} : Walk (Itx w d o rows) rows.length (fun H => H d = some (DF w d rows o)) (fun i H x H' => H' = H ∧ ∃ r, rows[i]? = some r ∧ x = r.2.1) :=
  ⟨fun _ _ hi q => ⟨q, hi⟩, fun _ q => ⟨q, Nat.le_refl _⟩, fun _ _ _ _ _ _ y => y⟩
end UP

set_option Elab.async false
set_option linter.all false
set_option maxRecDepth 100000
set_option maxHeartbeats 4000000
set_option pp.maxSteps 600
/-! d.get(k, x) and list(d.items()) of a dict whose keys are None and tuples -/
namespace UP
open PySem PySem.Spec PyProof.Rows L2
def tGetX (w : World) (td ty tx : TE) : TE := fun σ H Q => td σ H fun x H1 => ∃ d, x = .ref d ∧ (∃ r0, DXs w H1 d r0) ∧ ty σ H1 fun y H2 => tx σ H2 fun z H3 => ∃ rows k, DXs w H3 d rows ∧ KeyIn H3 k y ∧ Q ((valX rows k).getD z) H3
/-- the new tuples, one for each row, and the list of them -/
def rowAt : List Addr → List RowX → Addr → Option RowX
  | t :: ts, r :: rs, b => if b = t then some r else rowAt ts rs b
  | _, _, _ => none
def layX (H : Hp) (S : Addr) (ts : List Addr) (rows : List RowX) : Hp := fun b => if b = S then some (.lst (ts.map V.ref)) else match rowAt ts rows b with
  | some r => some (.tup [r.2.1, r.2.2])
  | none => H b
theorem rowAt_no : ∀ {ts : List Addr} {rows : List RowX} {b : Addr}, b ∉ ts → rowAt ts rows b = none
  | [], _, _, _ => rfl
  | _ :: _, [], _, _ => rfl
  | t :: ts, r :: rs, b, h => by
    show (if b = t then _ else _) = none
    rw [if_neg (fun z => h (by rw [z]; exact List.mem_cons_self ..)), rowAt_no fun z => h (List.mem_cons_of_mem _ z)]
theorem rowAt_ok : ∀ {ts : List Addr} {rows : List RowX} {j : Nat} {t : Addr} {r : RowX}, ts.Nodup → ts[j]? = some t → rows[j]? = some r → rowAt ts rows t = some r
  | [], _, _, _, _, _, h, _ => by cases h
  | _ :: _, [], _, _, _, _, _, h => by cases h
  | a :: ts, q :: rs, 0, t, r, _, h1, h2 => by
    cases Option.some.inj h1
    cases Option.some.inj h2
    exact if_pos rfl
  | a :: ts, q :: rs, j + 1, t, r, nd, h1, h2 => by
    obtain ⟨n1, n2⟩ := List.nodup_cons.mp nd
    have h1 : ts[j]? = some t := h1
    show (if t = a then _ else _) = _
    have na : ¬ t = a := fun z => n1 (by rw [← z]; exact List.mem_of_getElem? h1)
    rw [if_neg na]
    exact rowAt_ok n2 h1 h2
theorem lay_S {H : Hp} {S : Addr} {ts : List Addr} {rows : List RowX} : layX H S ts rows S = some (.lst (ts.map V.ref)) := if_pos rfl
theorem lay_old {H : Hp} {S b : Addr} {ts : List Addr} {rows : List RowX} (h1 : b ≠ S) (h2 : b ∉ ts) : layX H S ts rows b = H b := by
  unfold layX
  rw [if_neg h1, rowAt_no h2]
theorem lay_new {H : Hp} {S : Addr} {ts : List Addr} {rows : List RowX} {j : Nat} {t : Addr} {r : RowX} (nd : ts.Nodup) (nS : S ∉ ts) (h1 : ts[j]? = some t) (h2 : rows[j]? = some r) : layX H S ts rows t = some (.tup [r.2.1, r.2.2]) := by
  unfold layX
  have na : ¬ t = S := fun z => nS (by rw [← z]; exact List.mem_of_getElem? h1)
  rw [if_neg na, rowAt_ok nd h1 h2]
def tListItemsX (w : World) (te : TE) : TE := fun σ H Q => te σ H fun x H1 => ∃ d rows, x = .ref d ∧ DXs w H1 d rows ∧ rows.length ≤ sizeLine ∧
  ∀ (H' : Hp) (p : Addr) (ts : List Addr), Same H1 H' → H1 p = none → H' p = some (.lst (ts.map V.ref)) → ts.length = rows.length → (∀ (j : Nat) (t : Addr) (r : RowX), ts[j]? = some t → rows[j]? = some r → H' t = some (.tup [r.2.1, r.2.2])) → Q (.ref p) H'
section
variable {X : Cx} {o e f : Expr} {p apos cpos pos : Pos} {td ty tx te : TE} {w : World}
theorem exact_bare {ob : Obj} (h : ob.ExactDict) : ob.dict = none := h.2.1
theorem pe_getX (hw : X.w = w) (hu : X.A.units + 65 < cLine) (ho : PE X o td) (he : PE X e ty) (hf : PE X f tx) (m : M2 X o "get" apos e f cpos) : PE X (.Call (.Attribute o "get" apos) [e, f] [] cpos) (tGetX w td ty tx) := by
  subst hw
  refine ⟨fun ps s σ H Q I h => ?_⟩
  refine wpAny_Call_method m.base m.few m.line PySem.F.plainAttrs_dict PySem.F.slot_dict_get PySem.F.type_dict_get (thn (ho.run ps s σ H _ I h) fun u s1 ⟨x, H1, I1, rx, d, ex, ⟨r0, D0⟩, q1⟩ => ?_)
  subst ex
  cases (show u = Value.ref d from rx)
  refine ⟨x_typeIs I1 D0, fun b q => ?_, ?_⟩
  · cases q
    obtain ⟨_, es, ⟨ob, ep, g1, g2, _⟩, _⟩ := D0.ents I1.hok
    exact ⟨ob, g1, exact_bare g2⟩
  rw [m.trees]
  refine Calls.callWith_builtin rfl (Calls.evalArgs_plain (Calls.spliced_cons (thn (he.run ps s1 σ H1 _ I1 q1) fun ku s2 ⟨y, H2, I2, ry, q2⟩ => ?_)))
  refine Calls.spliced_cons (thn (hf.run ps s2 σ H2 _ I2 q2) fun xu s3 ⟨z, H3, I3, rz, rows, k, D, K, q3⟩ => Calls.spliced_nil ?_)
  obtain ⟨hd, es, dd, pr⟩ := D.ents I3.hok
  refine Dx.get_k (k := k) (by omega) (K.is I3.hok ry) hd dd ?_
  have gr := got_rel pr k
  cases e1 : valX rows k with
  | none =>
    rw [e1] at gr q3
    cases e2 : Dx.gotE es (rows.map (·.1)) k with
    | none => exact ⟨z, H3, I3.tok _, rz, q3⟩
    | some x2 => rw [e2] at gr; exact absurd gr id
  | some v1 =>
    rw [e1] at gr q3
    obtain ⟨x2, e2, r2⟩ := RelO.some_of gr
    rw [e2]
    exact ⟨v1, H3, I3.tok _, r2, q3⟩
theorem lay_inv {pins : List (Addr × Obj)} {σ : L2.St} {H : Hp} {s : Shared} {h' : Heap} {tk : Nat} {rows : List RowX} {es : Array DictEntry} {acc : Array Value} {c : Nat} {ts : List Addr} (I : Inv X pins σ H s) (hz : rows.length ≤ sizeLine) (pr : Paired (RowE X.w) rows es.toList)
    (hk : ∀ b ob, s.heap.get? b = some ob → h'.get? b = some ob) (hS : h'.get? s.heap.objs.size = some { cls := .type "list", dict := none, data := .seq acc c, slots := #[] }) (hl : ts.length = es.size) (hG : PySem.W.DilG es s.heap.objs.size h' ts) (hacc : acc.toList = ts.map Value.ref) :
    Same H (layX H s.heap.objs.size ts rows) ∧ H s.heap.objs.size = none ∧ Inv X pins σ (layX H s.heap.objs.size ts rows) { s with heap := h', toks := tk } ∧ ts.length = rows.length ∧ ∀ (j : Nat) (t : Addr) (r : RowX), ts[j]? = some t → rows[j]? = some r → layX H s.heap.objs.size ts rows t = some (.tup [r.2.1, r.2.2]) := by
  have nS : s.heap.objs.size ∉ ts := fun z => Nat.lt_irrefl _ (hG.above _ z)
  have nd : ts.Nodup := hG.rise.imp fun {a b} (q : a < b) => Nat.ne_of_lt q
  have fT : ∀ t ∈ ts, H t = none := fun t ht => I.hok.fresh (Nat.le_of_lt (hG.above t ht))
  have fS : H s.heap.objs.size = none := I.hok.fresh (Nat.le_refl _)
  have lr : ts.length = rows.length := by rw [hl, ← Array.length_toList, Paired.length pr]
  have sm : Same H (layX H s.heap.objs.size ts rows) := fun b u q => by
    rw [lay_old (fun z => by rw [z, fS] at q; cases q) (fun z => by rw [fT b z] at q; cases q)]
    exact q
  have lo : ∀ b ob, s.heap.get? b = some ob → b ≠ s.heap.objs.size ∧ b ∉ ts := fun b ob q => by
    have := Heap.lt_size q
    exact ⟨Nat.ne_of_lt this, fun z => absurd (hG.above b z) (Nat.not_lt.mpr (Nat.le_of_lt this))⟩
  refine ⟨sm, fS, ?_, lr, fun j t r h1 h2 => lay_new nd nS h1 h2⟩
  refine I.call' (ch := []) rfl ⟨fun b ob q _ _ _ => hk b ob q, fun b ob q _ _ _ => ⟨ob.slots, hk b ob q⟩, fun b ob q n _ => ?_, fun b ob q _ => ⟨ob, hk b ob q⟩, fun b xs q => sm b _ q, fun b ob u q => sm b _ q, fun b ps q => ⟨#[], by rw [sm b _ q]; simp⟩⟩ (fun b u q => ?_) I.bare fun b z => by simp at z
  · obtain ⟨z1, z2⟩ := lo b ob q
    rw [lay_old z1 z2]
    exact n
  · by_cases c1 : b = s.heap.objs.size
    · subst c1
      rw [lay_S] at q
      cases q
      refine ⟨by rw [List.length_map, lr]; exact hz, acc.toList, c, by rw [hacc]; exact LiI.vals_refs ts, ?_⟩
      rw [Array.toArray_toList]
      exact hS
    · by_cases c2 : b ∈ ts
      · obtain ⟨j, hj⟩ := List.getElem?_of_mem c2
        have jl : j < rows.length := by
          rw [← lr]
          exact (List.getElem?_eq_some_iff.mp hj).1
        rw [lay_new nd nS hj (List.getElem?_eq_getElem jl)] at q
        cases q
        obtain ⟨hj', g⟩ := hG.pairs j b hj
        rcases paired_get (i := j) pr with ⟨n1, _⟩ | ⟨r, e, e1, e2, row⟩
        · rw [List.getElem?_eq_getElem jl] at n1
          cases n1
        · rw [List.getElem?_eq_getElem jl] at e1
          cases e1
          have ee : es[j] = e := by
            rw [Array.getElem?_toList, Array.getElem?_eq_getElem hj'] at e2
            exact Option.some.inj e2
          rw [ee] at g
          exact ⟨by show 2 ≤ sizeLine; decide, [e.key, e.val], .cons row.key (.cons row.val .nil), ⟨_, g, rfl, _, rfl⟩⟩
      · rw [lay_old c1 c2] at q
        exact (I.hok b u q).stay (fun d v _ y => hk d v y) (fun d y => sm d _ y) fun d xs y => sm d _ y
/-- list(e.items()) -/
theorem pe_listItemsX {ap cp pp : Pos} (hw : X.w = w) (hc : X.calm = true) (he : PE X e te) (hg : Gl X "list") (hm : X.mg "list" = none) (hv : bootBuiltins "list" = some (.type "list")) (hbase : attributeBase e "items" X.env (eval e X.env) = eval e X.env := by rfl) (hline : (ap.endLine == cp.line) = true := by rfl)
    (hs : starEach [.Call (.Attribute e "items" ap) [] [] cp] X.env = (false, eval (.Call (.Attribute e "items" ap) [] [] cp) X.env) :: starEach [] X.env := by rfl) :
    PE X (.Call (.Name "list" p) [.Call (.Attribute e "items" ap) [] [] cp] [] pp) (tListItemsX w te) := by
  subst hw
  refine ⟨fun ps s σ H Q I h => wpAny_Call_Name_kw (ld_blt I hg hm hv (PyProof.Rows.callWith_type1 ?_ hs rfl))⟩
  rw [hs]
  show wpAny _ _ (spliced ((false, eval (.Call (.Attribute e "items" ap) [] [] cp) X.env) :: backTo pp (starEach [] X.env))) _ _ s
  refine Calls.spliced_cons (wpAny_Call_method (T := "dict") (id := "dict.items") hbase rfl hline F.plainAttrs_dict F.slot_dict_items F.type_dict_items (thn (he.run ps s σ H _ I h) fun u s1 ⟨x, H1, I1, rx, da, rows, ex, D, hz, q⟩ => ?_))
  subst ex
  cases (show u = Value.ref da from rx)
  obtain ⟨hd, es, ⟨ob, ep, g1, g2, g3, _⟩, pr⟩ := D.ents I1.hok
  have raw : DT.Raw s1.heap da es ep := ⟨ob, g1, g2, g3⟩
  have raw2 : s1.heap.DictRaw da es ep := ⟨ob, g1, g2, g3⟩
  have I2 : Inv X ps σ H1 { s1 with heap := s1.heap.push { cls := .type "dict_items", data := .fields #[.ref da] } } := I1.kept (t' := s1.toks) fun b o' q => Heap.get?_push_of_some _ q
  refine ⟨raw.typeIs, fun b z => ?_, ?_⟩
  · cases z
    exact ⟨ob, g1, exact_bare g2⟩
  show wpAny _ _ (callWith cp (.builtin "dict.items") [.ref da] [] []) _ X.xe s1
  refine method_meetsIn F.slot_dict_items F.entry_dict_items rfl (PySem.evalArgs_none ⟨rfl, raw.typeIs, F.args_dict_items_1 _, _, DT.meetsItems (es := es) (ep := ep) hd, raw, ?_⟩)
  refine Calls.spliced_nil ?_
  refine PySem.W.dil_call (es := es) (ep := ep) (I1.ok.hd hc) ⟨_, Heap.get?_push_size _ rfl, rfl, rfl⟩ (raw2.push _) (by rw [← Array.length_toList, ← Paired.length pr]; exact hz) fun h' tk acc c ts hk hS hl hG hacc => ?_
  obtain ⟨k1, k2, J, k3, k4⟩ := lay_inv (tk := tk) I2 hz pr hk hS hl hG hacc
  exact ⟨.ref _, _, J, rfl, q _ _ ts k1 k2 lay_S k3 k4⟩
end
end UP

set_option Elab.async false
set_option linter.all false
set_option maxRecDepth 100000
set_option maxHeartbeats 4000000
set_option pp.maxSteps 600
/-! list(d) and {k: v for ..} of dicts whose keys are None and tuples -/
namespace UP
open PySem PySem.Spec PyProof.Rows L2
def rListX (w : World) : List V → Hp → VK → Prop := fun xs H Q => ∃ d rows, xs = [.ref d] ∧ DXs w H d rows ∧ rows.length ≤ sizeLine ∧ ∀ l, H l = none → Q (.ref l) (upd H l (.lst (rows.map fun r => r.2.1)))
theorem vals_of {xs : List V} {us : List Value} (l : xs.length = us.length) (h : ∀ (j : Nat) (x : V) (u : Value), xs[j]? = some x → us[j]? = some u → RelV x u) : Vals xs us := by
  induction xs generalizing us with
  | nil =>
    cases us with
    | nil => exact .nil
    | cons _ _ => cases l
  | cons x t ih =>
    cases us with
    | nil => cases l
    | cons u v => exact .cons (h 0 x u rfl rfl) (ih (Nat.succ.inj l) fun j a b e1 e2 => h (j + 1) a b e1 e2)
section
variable {X : Cx} {w : World}
theorem call_listX (hw : X.w = w) (hc : X.calm = true) : CallR X (.type "list") (rListX w) := by
  subst hw
  intro ps s σ H xs us Q I rv h
  obtain ⟨d, rows, rfl, D, hz, q⟩ := h
  obtain ⟨u, rfl, rx⟩ := vals1 rv
  cases (show u = Value.ref d from rx)
  obtain ⟨hd, es, ⟨ob, ep, g1, g2, g3, _⟩, pr⟩ := D.ents I.hok
  have lr : rows.length = es.size := by rw [← Array.length_toList, Paired.length pr]
  refine PySem.W.kdl_call (PySem.KdlSrc.rawDict (es := es) (ep := ep) hd) (I.ok.hd hc) ⟨ob, g1, g2, g3⟩ (by rw [← lr]; exact hz) fun h' tk acc c hk hS hI => ?_
  obtain ⟨i1, i2⟩ := hI
  have rl : Vals (rows.map fun r => r.2.1) acc.toList := vals_of (by have := Array.length_toList (xs := acc); simp only [List.length_map]; omega) fun j x v e1 e2 => by
    rw [List.getElem?_map] at e1
    cases er : rows[j]? with
    | none => rw [er] at e1; cases e1
    | some r =>
      rw [er] at e1
      obtain rfl : r.2.1 = x := Option.some.inj e1
      obtain ⟨hj, rfl⟩ := i2 j v (by rw [← Array.getElem?_toList]; exact e2)
      rcases paired_get (i := j) pr with ⟨n, _⟩ | ⟨r', en, e3, e4, row⟩
      · rw [er] at n; cases n
      · rw [er] at e3
        cases e3
        have : es[j] = en := by
          rw [Array.getElem?_toList, Array.getElem?_eq_getElem hj] at e4
          exact Option.some.inj e4
        rw [this]
        exact row.key
  refine ⟨.ref s.heap.objs.size, _, I.laid (a := s.heap.objs.size) (o := .lst (rows.map fun r => r.2.1)) (t' := tk) hk (Nat.le_refl _) ⟨by rw [List.length_map]; exact hz, acc.toList, c, rl, ?_⟩, rfl, q _ (I.hok.fresh (Nat.le_refl _))⟩
  rw [Array.toArray_toList]
  exact hS
/-- {k: v for target in iter if ..}: the dict stands at D -/
def tDcX (w : World) (wi : TI) (g : TG) (tt : TT) (tk tv : TE) (vs : List Nat) : TE := fun σ H Q => wi σ H fun J Ha => ∀ D, Ha D = none → ∃ Z : Nat → Nat → Hp → Prop, (∃ m, Z 0 m (upd Ha D (DX w D []))) ∧ ∀ i m Hb, Z i m Hb →
  (J.stop i Hb ∧ Q (.ref D) Hb) ∨ (J.go i Hb ∧ ∃ Then : Hp → Prop, (∀ Hc, Then Hc → ∃ n, n < m ∧ Z (i + 1) n Hc) ∧ ∀ x Hc, J.yld i Hb x Hc → g x (wipe σ vs) Hc fun τ Hd => wipe τ vs = wipe σ vs ∧ tt τ Hd fun b He =>
    if b = true then tk τ He fun y Hf => tv τ Hf fun z Hg => ∃ rows k, DXs w Hg D rows ∧ KeyIn Hg k y ∧ rows.length ≤ sizeLine ∧ Then (upd Hg D (DX w D (putX rows k y z))) else Then He)
section
variable {kx vx tg iter : Expr} {ifs : List Expr} {scope : Scope} {own : List (Str × Nat)} {pos : Pos} {wi : TI} {g : TG} {tt : TT} {tk tv : TE}
theorem pe_dcX (hw : X.w = w) (hu : X.A.units + 65 < cLine) (calm : X.calm = true) (nd : X.N.Nodup) (hi : PI X tg iter wi) (bo : BlkOk X.N X.env.scope scope own)
    (hg : ∀ (t : Shared) (G : Hp) (B : Addr) (cl : List (Str × Addr)) (fp : List Addr), PG (X.blk t G scope (compEnvC scope cl B X.env) fp) tg g)
    (ht : ∀ (t : Shared) (G : Hp) (B : Addr) (cl : List (Str × Addr)) (fp : List Addr), PTs (X.blk t G scope (compEnvC scope cl B X.env) fp) ifs tt)
    (hk : ∀ (t : Shared) (G : Hp) (B : Addr) (cl : List (Str × Addr)) (fp : List Addr), PE (X.blk t G scope (compEnvC scope cl B X.env) fp) kx tk)
    (hv : ∀ (t : Shared) (G : Hp) (B : Addr) (cl : List (Str × Addr)) (fp : List Addr), PE (X.blk t G scope (compEnvC scope cl B X.env) fp) vx tv) (plain : ∀ x, foldedSetIterable iter X.env x = pure x := by intro _; rfl) :
    PE X (.DictComp kx vx [⟨tg, iter, ifs, 0⟩] scope pos) (tDcX w wi g tt tk tv (own.map (·.2))) := by
  subst hw
  refine ⟨fun ps s σ H Q I h => ?_⟩
  rw [arm_eval_DictComp]
  have cells : ∀ y ∈ scope.names, y.2 = .free → ∃ c, X.env.cells.lookup y.1 = some c := fun y hy e => (bo.free y hy e).elim (fun k => I.ok.has _ (.inl k)) fun k => I.ok.has _ (.inr k)
  refine wpAny_comprehension_free (use := none) rfl plain (closure_ok cells) bo.kind (fun y hy e => by rw [bo.uniq y hy, e]) (thn (hi.run ps s σ H _ I h) fun _ s1 h1 => thn h1 fun _ s2 h2 => ?_)
  obtain ⟨it, fp, tn, J, Ha, rfl, Ia, T, st, fr, q⟩ := h2
  refine wpAny_newObj_type (newEnv_comp ?_)
  have ID := Ia.laid (a := s2.heap.objs.size) (o := DX X.w s2.heap.objs.size []) (h' := s2.heap.push { cls := .type "dict", data := .dict #[] }) (t' := s2.toks) (fun _ _ z => Heap.get?_push_of_some _ z) (Nat.le_refl _) (x_empty s2.heap Ia.big)
  have nD : Ha s2.heap.objs.size = none := Ia.hok.fresh (Nat.le_refl _)
  have under : ∀ b ∈ fp, b < s2.heap.objs.size := fun b hb => let ⟨_, e, _⟩ := T.obj _ _ st b hb; Heap.lt_size e
  obtain ⟨D, eD⟩ : ∃ D, s2.heap.objs.size = D := ⟨_, rfl⟩
  rw [eD] at ID nD
  obtain ⟨Z, ⟨m0, z0⟩, turn⟩ := q D nD
  have frD : ∀ b ∈ fp, FpOk X ps (upd Ha D (DX X.w D [])) b ∧ b < (s2.heap.push { cls := .type "dict", data := .dict #[] }).objs.size := fun b hb => by
    have lt := under b hb
    have nb : b ≠ D := by rw [← eD]; exact Nat.ne_of_lt lt
    exact ⟨⟨by rw [upd_ne nb]; exact (fr b hb).1, (fr b hb).2⟩, by rw [Heap.size_push]; exact Nat.lt_succ_of_lt lt⟩
  have stD : tn 0 (s2.heap.push { cls := .type "dict", data := .dict #[] }) := T.keep _ _ _ st fun b _ o z => Heap.get?_push_of_some _ z
  rw [eD]
  obtain ⟨s3, e3⟩ : ∃ s3 : Shared, ({ s2 with heap := s2.heap.push { cls := .type "dict", data := .dict #[] } } : Shared) = s3 := ⟨_, rfl⟩
  rw [e3]
  have I3 : Inv X ps σ (upd Ha D (DX X.w D [])) s3 := by
    rw [← e3]
    exact ID
  have h3 : s2.heap.push { cls := .type "dict", data := .dict #[] } = s3.heap := by rw [← e3]
  rw [h3] at frD stD
  have Ib := block_start I3 bo nd frD
  have stB : tn 0 (pushCells (s3.heap.push { cls := .type "dict", data := .dict #[] }) scope.names) := T.keep _ _ _ stD fun b _ o z => pushCells_keeps _ _ _ _ (Heap.get?_push_of_some _ z)
  have clear0 : ∀ b ∈ fp, (upd Ha D (DX X.w D [])) b = none := fun b hb => (frD b hb).1.1
  show codeAny _ _ (.compStart (.DictComp kx vx [⟨tg, iter, ifs, 0⟩] scope pos) 0 (.ref it) (.ref D) (compEnvC scope (cellsFrom (s3.heap.objs.size + 1) scope.names (cloFrom X.env.cells scope.names [])) s3.heap.objs.size X.env)) (compPost (model X.prog X.w) X.A X.xe none _ (.ref D) s3.heap.objs.size) { s3 with heap := pushCells (s3.heap.push { cls := .type "dict", data := .dict #[] }) scope.names }
  have rg := hg s3 (upd Ha D (DX X.w D [])) s3.heap.objs.size (cellsFrom (s3.heap.objs.size + 1) scope.names (cloFrom X.env.cells scope.names [])) fp
  have rt := ht s3 (upd Ha D (DX X.w D [])) s3.heap.objs.size (cellsFrom (s3.heap.objs.size + 1) scope.names (cloFrom X.env.cells scope.names [])) fp
  have rk := hk s3 (upd Ha D (DX X.w D [])) s3.heap.objs.size (cellsFrom (s3.heap.objs.size + 1) scope.names (cloFrom X.env.cells scope.names [])) fp
  have rv := hv s3 (upd Ha D (DX X.w D [])) s3.heap.objs.size (cellsFrom (s3.heap.objs.size + 1) scope.names (cloFrom X.env.cells scope.names [])) fp
  obtain ⟨cb, ecb⟩ : ∃ cb, compEnvC scope (cellsFrom (s3.heap.objs.size + 1) scope.names (cloFrom X.env.cells scope.names [])) s3.heap.objs.size X.env = cb := ⟨_, rfl⟩
  have own0 : cb.locals = s3.heap.objs.size := by rw [← ecb]; rfl
  rw [ecb] at rg rt rk rv Ib ⊢
  obtain ⟨H3, eH3⟩ : ∃ H3, upd Ha D (DX X.w D []) = H3 := ⟨_, rfl⟩
  rw [eH3] at I3 Ib rg rt rk rv z0 clear0 frD
  obtain ⟨s4, e4⟩ : ∃ s4 : Shared, ({ s3 with heap := pushCells (s3.heap.push { cls := .type "dict", data := .dict #[] }) scope.names } : Shared) = s4 := ⟨_, rfl⟩
  rw [e4] at Ib ⊢
  have st4 : tn 0 s4.heap := by
    rw [← e4]
    exact stB
  have fpB : ∀ {τ : L2.St} {G : Hp} {t : Shared}, Inv (X.blk s3 H3 scope cb fp) [] τ G t → (∀ b ∈ fp, G b = none) → ∀ b ∈ fp, FpOk (X.blk s3 H3 scope cb fp) [] G b := fun J1 none' b hb => by
    obtain ⟨x1, x2⟩ := J1.ok.exf b hb
    exact ⟨none' b hb, x1, J1.ok.exfs b hb, .inl hb, fun y c e => x2 y c e, fun p hp => by cases hp⟩
  have whole : codeAny (model X.prog X.w) X.A (.compLoop (.DictComp kx vx [⟨tg, iter, ifs, 0⟩] scope pos) 0 (.ref it) (.ref D) cb) (compPost (model X.prog X.w) X.A X.xe none (EP X ps σ Q) (.ref D) s3.heap.objs.size) s4 := by
    refine compLoop_anyD (fun n t => ∃ i G, Inv (X.blk s3 H3 scope cb fp) [] (wipe σ (own.map (·.2))) G t ∧ tn i t.heap ∧ (∀ b ∈ fp, G b = none) ∧ Z i n G) (fun n t5 hP => ?_) m0 ⟨0, H3, Ib, st4, clear0, z0⟩
    obtain ⟨i, G5, J5, st5, n5, z5⟩ := hP
    rcases turn i n G5 z5 with ⟨halt, last⟩ | ⟨more, Then, on, next⟩
    · refine thnF (T.done (X.blk s3 H3 scope cb fp) rfl rfl rfl calm i [] t5 _ G5 (fun _ _ => False) J5 (fpB J5 n5) st5 halt) fun r t6 hr => ?_
      obtain ⟨rfl, J6⟩ := hr
      have back : Inv X ps σ G5 t6 := I3.call' (ch := fp) J6.os J6.base J6.hok J6.bare fun b hb => by
        obtain ⟨_, f1, _, f3, f4, f5⟩ := (frD b hb).1
        exact ⟨f3, f1, f4, f5⟩
      have gone : G5 s3.heap.objs.size = none := by
        rw [← own0]
        exact J6.free
      obtain ⟨mm, hn, _⟩ := J6.loc
      have hn : t6.heap.Ns cb.locals mm := hn
      rw [own0] at hn
      refine ⟨mm, hn, fun h'' sb => ?_⟩
      obtain ⟨f0, f1, f2, f3, f4, f5⟩ := I3.fpOk (Nat.le_refl _) gone
      exact ⟨.ref D, G5, back.turned (t' := t6.toks) (fun b o hb e => (sb.2 b hb).trans e) f0 f1 f3 f4 f5, rfl, last⟩
    · refine thnF (T.item (X.blk s3 H3 scope cb fp) rfl rfl rfl calm i [] t5 _ G5 (fun _ _ => False) J5 (fpB J5 n5) st5 more) fun r t6 hr => ?_
      obtain ⟨u, rfl, h6⟩ := hr
      refine thnF h6 fun _ t7 ⟨x, G7, J7, r7, y7, st7, n7⟩ => ?_
      have Jp := J7.pinned (fpB J7 n7) (T.obj _ _ st7)
      refine thnF (rg.run _ t7 _ G7 x u _ Jp r7 (next x G7 y7)) fun _ t8 ⟨τ, G8, J8, w8, q8⟩ => ?_
      have close : ∀ {t : Shared} {G : Hp}, Inv (X.blk s3 H3 scope cb fp) ([] ++ pinsAt fp t7.heap) τ G t → Then G → ∃ m, m < n ∧ ∃ i G, Inv (X.blk s3 H3 scope cb fp) [] (wipe σ (own.map (·.2))) G t ∧ tn i t.heap ∧ (∀ b ∈ fp, G b = none) ∧ Z i m G := fun {t G} J th => by
        obtain ⟨m, lt, z⟩ := on G th
        have pinned : ∀ b ∈ fp, ∀ o, t7.heap.get? b = some o → t.heap.get? b = some o ∧ G b = none := fun b hb o e => by
          have pp := J.pin (b, o) (List.mem_append_right _ (List.mem_append_right _ (mem_pinsAt hb e)))
          exact ⟨pp.1, pp.2.1⟩
        refine ⟨m, lt, i + 1, G, (J.unpinned (pins := [])).weak (by rw [← w8, wipe_length]) (fun j v e => by rw [← w8] at e; exact (wipe_some e).1), T.keep _ _ _ st7 fun b hb o e => (pinned b hb o e).1, fun b hb => ?_, z⟩
        obtain ⟨o, e, _⟩ := T.obj _ _ st7 b hb
        exact (pinned b hb o e).2
      refine thnF (rt.run _ t8 τ G8 _ J8 q8) fun b t9 ⟨G9, J9, q9⟩ => ?_
      cases b with
      | false =>
        rw [if_neg Bool.false_ne_true] at q9 ⊢
        exact close J9 q9
      | true =>
        rw [if_pos rfl] at q9 ⊢
        refine thnF (rk.run _ t9 τ G9 _ J9 q9) fun kv t10 ⟨yk, G10, J10, r10, q10⟩ => ?_
        refine thnF (rv.run _ t10 τ G10 _ J10 q10) fun vv t11 ⟨yv, G11, J11, r11, rows, k, DD, KK, hz, th⟩ => ?_
        exact x_store (X := X.blk s3 H3 scope cb fp) hu J11 DD KK hz r10 r11 fun t12 J12 => close J12 th
  exact codeAny_compStart_dict whole (T.self X.A 0 _ _ _ st4 whole)
end
end
end UP

set_option Elab.async false
set_option linter.all false
set_option maxRecDepth 100000
set_option maxHeartbeats 4000000
namespace UP
open PySem PySem.Spec PyProof.Rows L2
def topS (i : Nat) : Stmt := PySem.Challenge.pw_unlikepairs_k39_large_orders.main.body.getD i (.Pass ⟨0, 0, 0, 0⟩)
structure Tx (mg : Str → Option Value) : Prop where
  n_isinstance : mg "isinstance" = none
  n_int : mg "int" = none
  n_bool : mg "bool" = none
  n_str : mg "str" = none
  n_list : mg "list" = none
  n_tuple : mg "tuple" = none
  n_len : mg "len" = none
  n_all : mg "all" = none
  n_zip : mg "zip" = none
  n_sum : mg "sum" = none
  n_min : mg "min" = none
  n_max : mg "max" = none
  n_abs : mg "abs" = none
  n_range : mg "range" = none
  n_repr : mg "repr" = none
  n_enumerate : mg "enumerate" = none
  n_any : mg "any" = none
  n_dict : mg "dict" = none
  n_sorted : mg "sorted" = none
  n_set : mg "set" = none
  n_reversed : mg "reversed" = none
  c_MAX_LETTERS : ∃ t, mg "MAX_LETTERS" = some (.int 8 t)
  c_MAX_KINDS : ∃ t, mg "MAX_KINDS" = some (.int 12 t)
  c_MAX_COUNT : ∃ t, mg "MAX_COUNT" = some (.int 1000000000000000000000000000000 t)
  c_MAX_PRODUCT : ∃ t, mg "MAX_PRODUCT" = some (.int 3000 t)
section
variable {P : Program} {w : World} {K : PySem.W.Frag} {mg : Str → Option Value} {base : Heap}
/-! is_whole: slots 0:value -/
abbrev s_is_whole : Stmt := topS 12
theorem sc_is_whole : FnScope ["value"] ["value"] (defScope s_is_whole) := ⟨rfl, rfl, rfl, by decide +kernel, rfl, by decide +kernel, by decide +kernel⟩
def sp_is_whole : Sp := fun vs H Q _ => ∃ n : Int, vs = [.int n] ∧ Q (.bl true) H
theorem ok_is_whole (D : Df K mg "is_whole" s_is_whole) (T : Tx mg) : Has P w K mg base 1 "is_whole" ["value"] sp_is_whole := by
  refine has_of D sc_is_whole (fun _ _ _ _ _ _ us hl => match us, hl with | [_], _ => rfl) (fun vs H Q E h => ?_) (fun f cdv A outer s H vs Q E hr h => ?_)
  · obtain ⟨n, rfl, _⟩ := h
    rfl
  · obtain ⟨n, rfl, q⟩ := h
    refine ⟨_, (pss_one (ps_ret (pe_and (pe_callB call_isi (by rfl) T.n_isinstance (by decide +kernel) (pa_cons (pv 0) (pa_cons (pe_bltn (v := .ty "int") (by rfl) T.n_int (by decide +kernel) rfl) pa_nil))) (pe_one (pe_not (pe_callB call_isi (by rfl) T.n_isinstance (by decide +kernel) (pa_cons (pv 0) (pa_cons (pe_bltn (v := .ty "bool") (by rfl) T.n_bool (by decide +kernel) rfl) pa_nil)))))))), ?_⟩
    exact ⟨_, rfl, _, _, _, _, true, rfl, .ty "int", .base (.int n), kit_ty (by decide +kernel), true, rfl, iteT ⟨_, rfl, _, _, _, _, false, rfl, .ty "bool", .base (.int n), kit_ty (by decide +kernel), false, rfl, q⟩⟩
/-! is_within: slots 0:value 1:low 2:high -/
abbrev s_is_within : Stmt := topS 13
theorem sc_is_within : FnScope ["value", "low", "high"] ["value", "low", "high"] (defScope s_is_within) := ⟨rfl, rfl, rfl, by decide +kernel, rfl, by decide +kernel, by decide +kernel⟩
def sp_is_within : Sp := fun vs H Q _ => ∃ n lo hi : Int, vs = [.int n, .int lo, .int hi] ∧ Q (.bl (decide (lo ≤ n ∧ n ≤ hi))) H
theorem ok_is_within (D : Df K mg "is_within" s_is_within) (G_is_whole : Has P w K mg base 1 "is_whole" ["value"] sp_is_whole) : Has P w K mg base 2 "is_within" ["value", "low", "high"] sp_is_within := by
  refine has_of D sc_is_within (fun _ _ _ _ _ _ us hl => match us, hl with | [_, _, _], _ => rfl) (fun vs H Q E h => ?_) (fun f cdv A outer s H vs Q E hr h => ?_)
  · obtain ⟨n, lo, hi, rfl, _⟩ := h
    rfl
  · obtain ⟨n, lo, hi, rfl, q⟩ := h
    refine ⟨_, (pss_one (ps_ret (pe_and (pe_callH G_is_whole (hr.mono (by omega)) (by rfl) (pa_cons (pv 0) pa_nil)) (pe_one (pe_chain op_le op_le (pv 1) (pv 0) (pv 2)))))), ?_⟩
    refine ⟨_, rfl, n, rfl, true, rfl, iteT ⟨_, rfl, _, rfl, _, _, rfl, rfl, _, rfl, ite2 (fun e => ?_) (fun e => ?_)⟩⟩
    · have e := of_decide_eq_true e
      refine ⟨_, rfl, _, _, rfl, rfl, ?_⟩
      show Q (.bl (decide (n ≤ hi))) H
      rw [show decide (n ≤ hi) = decide (lo ≤ n ∧ n ≤ hi) by simp [e]]
      exact q
    · have e : ¬ lo ≤ n := fun z => e (decide_eq_true z)
      show Q (.bl false) H
      rw [show false = decide (lo ≤ n ∧ n ≤ hi) by simp [e]]
      exact q
theorem kit_lst {K : PySem.W.Frag} : PySem.W.kitAny K (.type "list") [.type "list", .type "tuple"] = some true := kitAny_cons (b := true) (kit_ty (by decide +kernel)) (fun z => nomatch z) (fun _ => rfl)
theorem kit_tup {K : PySem.W.Frag} : PySem.W.kitAny K (.type "tuple") [.type "list", .type "tuple"] = some true := kitAny_cons (b := false) (kit_ty (by decide +kernel)) (fun _ => kitAny_cons (b := true) (kit_ty (by decide +kernel)) (fun z => nomatch z) (fun _ => rfl)) (fun z => nomatch z)
/-! is_listed: slots 0:value 1:most -/
abbrev s_is_listed : Stmt := topS 14
theorem sc_is_listed : FnScope ["value", "most"] ["value", "most"] (defScope s_is_listed) := ⟨rfl, rfl, rfl, by decide +kernel, rfl, by decide +kernel, by decide +kernel⟩
def sp_is_listed : Sp := fun vs H Q _ => ∃ (a : Addr) (xs : List V) (m : Int), vs = [.ref a, .int m] ∧ Sq2 H a xs ∧ ∀ H', Same H H' → Q (.bl (decide ((xs.length : Int) ≤ m))) H'
theorem ok_is_listed (D : Df K mg "is_listed" s_is_listed) (T : Tx mg) : Has P w K mg base 1 "is_listed" ["value", "most"] sp_is_listed := by
  refine has_of D sc_is_listed (fun _ _ _ _ _ _ us hl => match us, hl with | [_, _], _ => rfl) (fun vs H Q E h => ?_) (fun f cdv A outer s H vs Q E hr h => ?_)
  · obtain ⟨a, xs, m, rfl, _⟩ := h
    rfl
  · obtain ⟨a, xs, m, rfl, hx, q⟩ := h
    refine ⟨_, (pss_one (ps_ret (pe_and (pe_callB call_isiT (by rfl) T.n_isinstance (by decide +kernel) (pa_cons (pv 0) (pa_cons (pe_tup (pa_cons (pe_bltn (v := .ty "list") (by rfl) T.n_list (by decide +kernel) rfl) (pa_cons (pe_bltn (v := .ty "tuple") (by rfl) T.n_tuple (by decide +kernel) rfl) pa_nil))) pa_nil))) (pe_one (pe_cmpR op_le (pe_callB call_len_seq (by rfl) T.n_len (by decide +kernel) (pa_cons (pv 0) pa_nil)) (pv 1) (nomark _)))))), ?_⟩
    refine ⟨_, rfl, (by show 2 ≤ sizeLine; decide), fun t nt => ?_⟩
    rcases hx with hx | hx
    · refine ⟨_, t, _, _, _, true, rfl, upd_same, .cons (.ty "list") (.cons (.ty "tuple") .nil), .base (.lst (same_upd nt _ _ hx)), kit_lst, true, rfl, iteT ?_⟩
      exact ⟨_, rfl, _, _, rfl, .inl (.of (same_upd nt _ _ hx)), _, rfl, _, _, rfl, rfl, q _ (same_upd nt)⟩
    · refine ⟨_, t, _, _, _, true, rfl, upd_same, .cons (.ty "list") (.cons (.ty "tuple") .nil), .base (.tup (same_upd nt _ _ hx)), kit_tup, true, rfl, iteT ?_⟩
      exact ⟨_, rfl, _, _, rfl, .inr (.of (same_upd nt _ _ hx)), _, rfl, _, _, rfl, rfl, q _ (same_upd nt)⟩
/-! is_couple: slots 0:value -/
abbrev s_is_couple : Stmt := topS 15
theorem sc_is_couple : FnScope ["value"] ["value"] (defScope s_is_couple) := ⟨rfl, rfl, rfl, by decide +kernel, rfl, by decide +kernel, by decide +kernel⟩
def sp_is_couple : Sp := fun vs H Q _ => ∃ (a : Addr) (xs : List V), vs = [.ref a] ∧ Sq2 H a xs ∧ xs.length = 2 ∧ ∀ H', Same H H' → Q (.bl true) H'
theorem ok_is_couple (D : Df K mg "is_couple" s_is_couple) (T : Tx mg) : Has P w K mg base 1 "is_couple" ["value"] sp_is_couple := by
  refine has_of D sc_is_couple (fun _ _ _ _ _ _ us hl => match us, hl with | [_], _ => rfl) (fun vs H Q E h => ?_) (fun f cdv A outer s H vs Q E hr h => ?_)
  · obtain ⟨a, xs, rfl, _⟩ := h
    rfl
  · obtain ⟨a, xs, rfl, hx, hl, q⟩ := h
    refine ⟨_, (pss_one (ps_ret (pe_and (pe_callB call_isiT (by rfl) T.n_isinstance (by decide +kernel) (pa_cons (pv 0) (pa_cons (pe_tup (pa_cons (pe_bltn (v := .ty "list") (by rfl) T.n_list (by decide +kernel) rfl) (pa_cons (pe_bltn (v := .ty "tuple") (by rfl) T.n_tuple (by decide +kernel) rfl) pa_nil))) pa_nil))) (pe_one (pe_cmpR op_eq (pe_callB call_len_seq (by rfl) T.n_len (by decide +kernel) (pa_cons (pv 0) pa_nil)) pe_int (nomark _)))))), ?_⟩
    refine ⟨_, rfl, (by show 2 ≤ sizeLine; decide), fun t nt => ?_⟩
    rcases hx with hx | hx
    · refine ⟨_, t, _, _, _, true, rfl, upd_same, .cons (.ty "list") (.cons (.ty "tuple") .nil), .base (.lst (same_upd nt _ _ hx)), kit_lst, true, rfl, iteT ⟨_, rfl, _, _, rfl, .inl (.of (same_upd nt _ _ hx)), rfl, ?_⟩⟩
      rw [hl]
      exact q _ (same_upd nt)
    · refine ⟨_, t, _, _, _, true, rfl, upd_same, .cons (.ty "list") (.cons (.ty "tuple") .nil), .base (.tup (same_upd nt _ _ hx)), kit_tup, true, rfl, iteT ⟨_, rfl, _, _, rfl, .inr (.of (same_upd nt _ _ hx)), rfl, ?_⟩⟩
      rw [hl]
      exact q _ (same_upd nt)
end
end UP

set_option Elab.async false
set_option linter.all false
set_option maxRecDepth 100000
set_option maxHeartbeats 4000000
namespace UP
open PySem PySem.Spec PyProof.Rows L2
theorem iteP {b : Bool} {A B : Prop} (h : b = true) (x : A) : if b = true then A else B := by
  rw [if_pos h]
  exact x
theorem iteN {b : Bool} {A B : Prop} (h : b = false) (x : B) : if b = true then A else B := by
  rw [if_neg (by rw [h]; decide)]
  exact x
theorem yesT {σ : L2.St} {H : Hp} {A B : Hp → Prop} (h : A H) : tYes σ H (fun b H3 => if b = true then A H3 else B H3) := by
  show (if true = true then A H else B H)
  exact iteT h
theorem lc_gen {J : It} {n : Nat} {g : TG} {tt : TT} {te : TE} {vs : List Nat} {σ : L2.St} {H1 : Hp} {D : Addr} {Qd : Hp → Prop} (Pv : Nat → Hp → Prop) (h0 : Pv 0 (upd H1 D (.lst [])))
    (hg : ∀ i H, i < n → Pv i H → J.go i H) (hst : ∀ H, Pv n H → J.stop n H)
    (hs : ∀ i x H H', i < n → Pv i H → J.yld i H x H' → g x (wipe σ vs) H' fun σ2 H2 => wipe σ2 vs = wipe σ vs ∧ tt σ2 H2 fun b H3 =>
      if b = true then te σ2 H3 fun y H4 => ∃ acc, H4 D = some (.lst acc) ∧ acc.length < sizeLine ∧ Pv (i + 1) (upd H4 D (.lst (acc ++ [y]))) else Pv (i + 1) H3) (hd : ∀ H, Pv n H → Qd H) :
    ∃ W : Nat → Nat → Hp → Prop, (∃ m, W 0 m (upd H1 D (.lst []))) ∧ ∀ i m H, W i m H →
      (J.stop i H ∧ Qd H) ∨ (J.go i H ∧ ∃ Nx : Hp → Prop, (∀ H', Nx H' → ∃ m', m' < m ∧ W (i + 1) m' H') ∧ ∀ x H', J.yld i H x H' → g x (wipe σ vs) H' fun σ2 H2 => wipe σ2 vs = wipe σ vs ∧ tt σ2 H2 fun b H3 =>
        if b = true then te σ2 H3 fun y H4 => ∃ acc, H4 D = some (.lst acc) ∧ acc.length < sizeLine ∧ Nx (upd H4 D (.lst (acc ++ [y]))) else Nx H3) := by
  refine ⟨fun i m H => m = n - i ∧ i ≤ n ∧ Pv i H, ⟨n, by simp, Nat.zero_le _, h0⟩, ?_⟩
  rintro i m H ⟨rfl, hi, p⟩
  by_cases hlt : i < n
  · exact .inr ⟨hg i H hlt p, Pv (i + 1), fun H' p' => ⟨n - (i + 1), by omega, rfl, hlt, p'⟩, fun x H' y => hs i x H H' hlt p y⟩
  · have e : i = n := by omega
    subst e
    exact .inl ⟨hst H p, hd H p⟩
section
variable {X : Cx} {K : PySem.W.Frag}
theorem ix_tupK (h : X.K = K) : IxR X (rIxT K) := h ▸ ix_tup
theorem ix_listK (h : X.K = K) : IxR X (rIxL K) := h ▸ ix_list
theorem pg_tupK {es : List Expr} {k : Nat} {t : TGs} {n : Nat} {pos : Pos} (h : X.K = K) (hc : X.calm = true) (hp : PGs X es t)
    (hn : (assignEach es X.env).length = n := by rfl) (hst : (assignEach es X.env).findIdx? (fun z => z.1) = none := by rfl) : PG X (.Tuple es k pos) (gTup K n t) := by
  subst h
  exact pg_tup hc hp hn hst
theorem call_len_seqK (h : X.K = K) : CallR X (.builtin "len") (fun xs H Q => ∃ p ys, xs = [.ref p] ∧ (SqL K H p ys ∨ SqT K H p ys) ∧ Q (.int ys.length) H) := by
  subst h
  exact call_len_seq
end
theorem ix_seqK {X : Cx} {K : PySem.W.Frag} (h : X.K = K) : IxR X (rIx K) := h ▸ ix_seq
/-! ### lists that grow -/
theorem same_grow {H H4 : Hp} {D : Addr} {o : HO} (n : H D = none) (s : Same H H4) : Same H (upd H4 D o) := fun b x e => by
  rw [upd_ne (ne_of_none e n)]
  exact s b x e
theorem RunV.grow {H : Hp} {D : Addr} {acc acc' : List V} {v : V} {r : Run} (hD : H D = some (.lst acc)) (h : RunV H v r) : RunV (upd H D (.lst acc')) v r := by
  obtain ⟨t, e, h⟩ := h
  refine ⟨t, e, ?_⟩
  rw [upd_ne (ne_of h hD (by intro q; cases q))]
  exact h
theorem prs_grow {H : Hp} {D : Addr} {acc acc' : List V} {xs : List V} {rs : List Run} (hD : H D = some (.lst acc)) (h : Paired (RunV H) xs rs) : Paired (RunV (upd H D (.lst acc'))) xs rs := Paired.imp (fun _ _ => RunV.grow hD) h
theorem prs_same {H H' : Hp} {xs : List V} {rs : List Run} (s : Same H H') (h : Paired (RunV H) xs rs) : Paired (RunV H') xs rs := Paired.imp (fun _ _ => RunV.same s) h
theorem take_snoc {α : Type} {l : List α} {i : Nat} {x : α} (h : l[i]? = some x) : l.take (i + 1) = l.take i ++ [x] := by
  rw [List.take_add_one, h]
  rfl
theorem lc_wk {J : It} {H0 H1 : Hp} {xs : List V} {g : TG} {tt : TT} {te : TE} {vs : List Nat} {σ : L2.St} {D : Addr} {Qd : Hp → Prop} (wk : Wk J H0 xs) (Pv : Nat → Hp → Prop) (hsm : ∀ i H, Pv i H → Same H0 H) (h0 : Pv 0 (upd H1 D (.lst [])))
    (hs : ∀ i x H, xs[i]? = some x → Pv i H → g x (wipe σ vs) H fun σ2 H2 => wipe σ2 vs = wipe σ vs ∧ tt σ2 H2 fun b H3 =>
      if b = true then te σ2 H3 fun y H4 => ∃ acc, H4 D = some (.lst acc) ∧ acc.length < sizeLine ∧ Pv (i + 1) (upd H4 D (.lst (acc ++ [y]))) else Pv (i + 1) H3) (hd : ∀ H, Pv xs.length H → Qd H) :
    ∃ W : Nat → Nat → Hp → Prop, (∃ m, W 0 m (upd H1 D (.lst []))) ∧ ∀ i m H, W i m H →
      (J.stop i H ∧ Qd H) ∨ (J.go i H ∧ ∃ Nx : Hp → Prop, (∀ H', Nx H' → ∃ m', m' < m ∧ W (i + 1) m' H') ∧ ∀ x H', J.yld i H x H' → g x (wipe σ vs) H' fun σ2 H2 => wipe σ2 vs = wipe σ vs ∧ tt σ2 H2 fun b H3 =>
        if b = true then te σ2 H3 fun y H4 => ∃ acc, H4 D = some (.lst acc) ∧ acc.length < sizeLine ∧ Nx (upd H4 D (.lst (acc ++ [y]))) else Nx H3) := by
  refine lc_gen Pv h0 (fun i H hi p => wk.go i H (hsm i H p) hi) (fun H p => wk.stop H (hsm _ H p)) (fun i x H H' hi p y => ?_) hd
  obtain ⟨e, ex⟩ := wk.yld i x H H' (hsm i H p) y
  subst e
  exact hs i x _ ex p
theorem for_wk {J : It} {H0 H : Hp} {xs : List V} {g : TG} {tb : TS} {D : Ends} {σ : L2.St} (wk : Wk J H0 xs) (Pv : Nat → L2.St → Hp → Prop) (hsm : ∀ i σ H, Pv i σ H → Same H0 H) (h0 : Pv 0 σ H)
    (hs : ∀ i x σ H, xs[i]? = some x → Pv i σ H → g x σ H fun σ2 H2 => tb { D with nx := Pv (i + 1), ct := Pv (i + 1), bk := D.nx } σ2 H2) (hd : ∀ σ H, Pv xs.length σ H → D.nx σ H) :
    ∃ W : Nat → Nat → L2.St → Hp → Prop, (∃ m, W 0 m σ H) ∧ ∀ i m σ H, W i m σ H →
      (J.stop i H ∧ D.nx σ H) ∨ (J.go i H ∧ ∃ N : L2.St → Hp → Prop, (∀ σ' H', N σ' H' → ∃ m', m' < m ∧ W (i + 1) m' σ' H') ∧ ∀ x H', J.yld i H x H' → g x σ H' fun σ2 H2 => tb { D with nx := N, ct := N, bk := D.nx } σ2 H2) := by
  refine ⟨fun i m σ H => m = xs.length - i ∧ i ≤ xs.length ∧ Pv i σ H, ⟨xs.length, by omega, Nat.zero_le _, h0⟩, ?_⟩
  rintro i m σ H ⟨rfl, hi, p⟩
  by_cases hlt : i < xs.length
  · refine Or.inr ⟨wk.go i H (hsm i σ H p) hlt, Pv (i + 1), fun σ' H' p' => ⟨xs.length - (i + 1), by omega, rfl, hlt, p'⟩, fun x H' y => ?_⟩
    obtain ⟨e, ex⟩ := wk.yld i x H H' (hsm i σ H p) y
    subst e
    exact hs i x σ _ ex p
  · have e : i = xs.length := by omega
    subst e
    exact Or.inl ⟨wk.stop H (hsm _ σ H p), hd σ H p⟩
section
variable {P : Program} {w : World} {K : PySem.W.Frag} {mg : Str → Option Value} {base : Heap}
theorem lex1 {c d : Nat} : (!decide (([c] : List Nat) < [d])) = decide (d ≤ c) := by
  have e : (([c] : List Nat) < [d]) ↔ c < d := by
    rw [List.cons_lt_cons_iff]
    simp
  by_cases h : c < d
  · rw [decide_eq_true (e.mpr h), decide_eq_false (by omega)]
    rfl
  · rw [decide_eq_false (fun z => h (e.mp z)), decide_eq_true (by omega)]
    rfl
/-! is_kind: slots 0:value 1:letter -/
abbrev s_is_kind : Stmt := topS 16
theorem sc_is_kind : FnScope ["value", "letter"] ["value"] (defScope s_is_kind) := ⟨rfl, rfl, rfl, by decide +kernel, rfl, by decide +kernel, by decide +kernel⟩
def sp_is_kind : Sp := fun vs H Q _ => ∃ z : Str, vs = [.str z] ∧ KindOk z ∧ ∀ H', Same H H' → Q (.bl true) H'
theorem ok_is_kind (D : Df K mg "is_kind" s_is_kind) (T : Tx mg) : Has P w K mg base 1 "is_kind" ["value"] sp_is_kind := by
  refine has_of D sc_is_kind (fun _ _ _ _ _ _ us hl => match us, hl with | [_], _ => rfl) (fun vs H Q E h => ?_) (fun f cdv A outer s H vs Q E hr h => ?_)
  · obtain ⟨n, rfl, _⟩ := h
    rfl
  · obtain ⟨z, rfl, ⟨k1, k2, k3⟩, q⟩ := h
    refine ⟨_, (pss_cons (ps_if (PW.pt (pw_or (pt_not (pt_val (pe_callB call_isi (by rfl) T.n_isinstance (by decide +kernel) (pa_cons (pv 0) (pa_cons (pe_bltn (v := .ty "str") (by rfl) T.n_str (by decide +kernel) rfl) pa_nil))))) (pw_or1 (pt_not (pt_chain op_le op_le pe_int (pe_callB call_len_str (by rfl) T.n_len (by decide +kernel) (pa_cons (pv 0) pa_nil)) (pe_glI T.c_MAX_LETTERS (by rfl))))))) (pss_one (ps_ret pe_bl)) pss_nil)
    (pss_one (ps_ret (pe_callB (cr_all rfl) (by rfl) T.n_all (by decide +kernel) (pa_cons (pe_lc (own := [("letter", 1)]) rfl sc_is_kind.nd (pi_str (pv 0)) (blkOk_by (N := ["value", "letter"]) (sc := defScope s_is_kind) (by decide +kernel)) (fun _ _ _ _ _ => (pg_name (i := 1) sc_is_kind.nd rfl (by first | exact Or.inl rfl | exact Or.inr rfl))) (fun _ _ _ _ _ => pts_nil) (fun _ _ _ _ _ => (pe_chain op_le_str op_le_str pe_str (pv 1) pe_str))) pa_nil))))), ?_⟩
    refine ⟨_, rfl, _, _, _, _, true, rfl, .ty "str", .base (.str z), kit_ty (by decide +kernel), true, rfl, iteF ?_⟩
    refine ⟨_, rfl, z, rfl, smallE (by omega), _, _, rfl, rfl, _, rfl, iteP (decide_eq_true (by omega)) ⟨_, _, rfl, rfl, _, rfl, iteN ?_ ?_⟩⟩
    · show (!decide ((z.length : Int) ≤ 8)) = false
      rw [decide_eq_true (by omega)]
      rfl
    refine ⟨_, rfl, z, rfl, fun L nL => lc_gen (n := z.cps.size) (fun i H' => Same H H' ∧ H' L = some (.lst ((List.replicate i true).map V.bl))) ⟨same_upd nL, upd_same⟩ (fun i H' hi _ => hi) (fun H' _ => Nat.le_refl _) (fun i x H1 H2 hi p y => ?_) (fun H' p => ?_)⟩
    · obtain ⟨rfl, c, ec, rfl⟩ := y
      obtain ⟨sm, hL⟩ := p
      have hc : 97 ≤ c ∧ c ≤ 122 := k3 c (by
        have := Array.mem_of_getElem? ec
        simpa using this)
      have ea : ("a" : Str).cps.toList = [97] := by decide +kernel
      have ez : ("z" : Str).cps.toList = [122] := by decide +kernel
      refine ⟨rfl, yesT ⟨_, rfl, _, _, rfl, rfl, _, rfl, iteP ?_ ⟨_, _, rfl, rfl, _, hL, ?_, ?_, ?_⟩⟩⟩
      · show (!decide (([c] : List Nat) < ("a" : Str).cps.toList)) = true
        rw [ea, lex1]
        exact decide_eq_true hc.1
      · simp only [List.length_map, List.length_replicate]
        exact small (by have : z.cps.size = z.length := rfl; omega)
      · intro b o e
        have nb : b ≠ L := ne_of_none e nL
        rw [upd_ne nb]
        exact sm b o e
      · rw [upd_same]
        have e1 : (!decide ((("z" : Str).cps.toList) < ([c] : List Nat))) = true := by
          rw [ez, lex1]
          exact decide_eq_true hc.2
        show some (HO.lst ((List.replicate i true).map V.bl ++ [V.bl (!decide ((("z" : Str).cps.toList) < ([c] : List Nat)))])) = _
        rw [e1, List.replicate_succ', List.map_append]
        rfl
    · refine ⟨L, _, rfl, .of p.2, ?_⟩
      have e : ((List.replicate z.cps.size true).all id) = true := by simp
      rw [e]
      exact q H' p.1
def StOk (st : Option Run) : Prop := ∀ r, st = some r → KindOk r.1 ∧ 1 ≤ r.2
theorem at0 {α : Type} {x y : α} : atI [x, y] 0 = some x := rfl
theorem at1 {α : Type} {x y : α} : atI [x, y] 1 = some y := rfl
theorem ix0 {K : PySem.W.Frag} {H : Hp} {t : Addr} {x y : V} {Q : VK} (h : Sq2 H t [x, y]) (q : Q x H) : rIx K (.ref t) (.int 0) H Q := h.elim (fun z => .inl ⟨t, _, 0, _, rfl, rfl, .of z, at0, q⟩) (fun z => .inr (.inl ⟨t, _, 0, _, rfl, rfl, .of z, at0, q⟩))
theorem ix1 {K : PySem.W.Frag} {H : Hp} {t : Addr} {x y : V} {Q : VK} (h : Sq2 H t [x, y]) (q : Q y H) : rIx K (.ref t) (.int 1) H Q := h.elim (fun z => .inl ⟨t, _, 1, _, rfl, rfl, .of z, at1, q⟩) (fun z => .inr (.inl ⟨t, _, 1, _, rfl, rfl, .of z, at1, q⟩))
theorem all_rep (n : Nat) : ((List.replicate n true).all id) = true := by simp
/-! is_run: slots 0:value -/
abbrev s_is_run : Stmt := topS 17
theorem sc_is_run : FnScope ["value"] ["value"] (defScope s_is_run) := ⟨rfl, rfl, rfl, by decide +kernel, rfl, by decide +kernel, by decide +kernel⟩
def sp_is_run : Sp := fun vs H Q _ => ∃ (v : V) (r : Run), vs = [v] ∧ RunG H v r ∧ RunOk r ∧ ∀ H', Same H H' → Q (.bl true) H'
theorem ok_is_run (D : Df K mg "is_run" s_is_run) (T : Tx mg) (G_is_couple : Has P w K mg base 1 "is_couple" ["value"] sp_is_couple) (G_is_kind : Has P w K mg base 1 "is_kind" ["value"] sp_is_kind) (G_is_within : Has P w K mg base 2 "is_within" ["value", "low", "high"] sp_is_within) :
    Has P w K mg base 3 "is_run" ["value"] sp_is_run := by
  refine has_of D sc_is_run (fun _ _ _ _ _ _ us hl => match us, hl with | [_], _ => rfl) (fun vs H Q E h => ?_) (fun f cdv A outer s H vs Q E hr h => ?_)
  · obtain ⟨v, r, rfl, _⟩ := h
    rfl
  · obtain ⟨v, r, rfl, ⟨t, rfl, ht⟩, ⟨k, c1, c2⟩, q⟩ := h
    refine ⟨_, (pss_one (ps_ret (pe_and (pe_callH G_is_couple (hr.mono (by omega)) (by rfl) (pa_cons (pv 0) pa_nil)) (pe_and (pe_callH G_is_kind (hr.mono (by omega)) (by rfl) (pa_cons (pe_ix ix_seq (pv 0) pe_int (fun _ _ => rfl)) pa_nil)) (pe_one (pe_callH G_is_within (hr.mono (by omega)) (by rfl) (pa_cons (pe_ix ix_seq (pv 0) pe_int (fun _ _ => rfl)) (pa_cons pe_int (pa_cons (pe_glI T.c_MAX_COUNT (by rfl)) pa_nil))))))))), ?_⟩
    refine ⟨_, rfl, t, _, rfl, ht, rfl, fun H1 s1 => ⟨true, rfl, iteT ?_⟩⟩
    refine ⟨_, rfl, ix0 (ht.same s1) ⟨r.1, rfl, k, fun H2 s2 => ⟨true, rfl, iteT ?_⟩⟩⟩
    refine ⟨_, rfl, ix1 ((ht.same s1).same s2) ⟨r.2, 1, _, rfl, ?_⟩⟩
    rw [decide_eq_true ⟨c1, c2⟩]
    exact q _ (s1.trans s2)
/-! is_state: slots 0:value -/
abbrev s_is_state : Stmt := topS 18
theorem sc_is_state : FnScope ["value"] ["value"] (defScope s_is_state) := ⟨rfl, rfl, rfl, by decide +kernel, rfl, by decide +kernel, by decide +kernel⟩
def sp_is_state : Sp := fun vs H Q _ => ∃ (v : V) (st : Option Run), vs = [v] ∧ StG H v st ∧ StOk st ∧ ∀ H', Same H H' → Q (.bl true) H'
theorem ok_is_state (D : Df K mg "is_state" s_is_state) (T : Tx mg) (G_is_couple : Has P w K mg base 1 "is_couple" ["value"] sp_is_couple) (G_is_kind : Has P w K mg base 1 "is_kind" ["value"] sp_is_kind) (G_is_whole : Has P w K mg base 1 "is_whole" ["value"] sp_is_whole) :
    Has P w K mg base 2 "is_state" ["value"] sp_is_state := by
  refine has_of D sc_is_state (fun _ _ _ _ _ _ us hl => match us, hl with | [_], _ => rfl) (fun vs H Q E h => ?_) (fun f cdv A outer s H vs Q E hr h => ?_)
  · obtain ⟨v, r, rfl, _⟩ := h
    rfl
  · obtain ⟨v, st, rfl, hv, ok, q⟩ := h
    refine ⟨_, (pss_cons (ps_if (pt_cmpR op_isN (pv 0) pe_non (nomark _)) (pss_one (ps_ret pe_bl)) pss_nil)
    (pss_one (ps_ret (pe_and (pe_callH G_is_couple (hr.mono (by omega)) (by rfl) (pa_cons (pv 0) pa_nil)) (pe_and (pe_callH G_is_kind (hr.mono (by omega)) (by rfl) (pa_cons (pe_ix ix_seq (pv 0) pe_int (fun _ _ => rfl)) pa_nil)) (pe_and (pe_callH G_is_whole (hr.mono (by omega)) (by rfl) (pa_cons (pe_ix ix_seq (pv 0) pe_int (fun _ _ => rfl)) pa_nil)) (pe_one (pe_cmpR op_ge (pe_ix ix_seq (pv 0) pe_int (fun _ _ => rfl)) pe_int (nomark _))))))))), ?_⟩
    cases st with
    | none =>
      cases hv
      exact ⟨_, rfl, rfl, _, rfl, iteP rfl (q H (Same.refl H))⟩
    | some r =>
      obtain ⟨t, rfl, ht⟩ := hv
      obtain ⟨k, c1⟩ := ok r rfl
      refine ⟨_, rfl, rfl, _, rfl, iteN rfl ?_⟩
      refine ⟨_, rfl, t, _, rfl, ht, rfl, fun H1 s1 => ⟨true, rfl, iteT ?_⟩⟩
      refine ⟨_, rfl, ix0 (ht.same s1) ⟨r.1, rfl, k, fun H2 s2 => ⟨true, rfl, iteT ?_⟩⟩⟩
      refine ⟨_, rfl, ix1 ((ht.same s1).same s2) ⟨r.2, rfl, true, rfl, iteT ?_⟩⟩
      refine ⟨_, rfl, ix1 ((ht.same s1).same s2) ⟨_, _, rfl, rfl, ?_⟩⟩
      show Q (.bl (decide (1 ≤ r.2))) H2
      rw [decide_eq_true c1]
      exact q _ (s1.trans s2)
/-! checked_state: slots 0:state -/
abbrev s_checked_state : Stmt := topS 20
theorem sc_checked_state : FnScope ["state"] ["state"] (defScope s_checked_state) := ⟨rfl, rfl, rfl, by decide +kernel, rfl, by decide +kernel, by decide +kernel⟩
def sp_checked_state : Sp := fun vs H Q _ => ∃ (v : V) (st : Option Run), vs = [v] ∧ StG H v st ∧ StOk st ∧ ∀ H' v', Same H H' → StV H' v' st → Q v' H'
theorem ok_checked_state (D : Df K mg "checked_state" s_checked_state) (T : Tx mg) (G_is_state : Has P w K mg base 2 "is_state" ["value"] sp_is_state) :
    Has P w K mg base 3 "checked_state" ["state"] sp_checked_state := by
  refine has_of D sc_checked_state (fun _ _ _ _ _ _ us hl => match us, hl with | [_], _ => rfl) (fun vs H Q E h => ?_) (fun f cdv A outer s H vs Q E hr h => ?_)
  · obtain ⟨v, r, rfl, _⟩ := h
    rfl
  · obtain ⟨v, st, rfl, hv, ok, q⟩ := h
    refine ⟨_, (pss_cons (ps_if (pt_not (pt_val (pe_callH G_is_state (hr.mono (by omega)) (by rfl) (pa_cons (pv 0) pa_nil)))) (pss_one ps_never) pss_nil)
    (pss_one (ps_ret (pe_ifExp (pt_cmpR op_isN (pv 0) pe_non (nomark _)) pe_non (pe_callTy call_tuple_of (by rfl) T.n_tuple (by decide +kernel) (pa_cons (pv 0) pa_nil)))))), ?_⟩
    refine ⟨_, rfl, v, st, rfl, hv, ok, fun H1 s1 => ⟨true, rfl, iteF ?_⟩⟩
    cases st with
    | none =>
      cases hv
      exact ⟨_, rfl, rfl, _, rfl, iteP rfl (q H1 _ s1 rfl)⟩
    | some r =>
      obtain ⟨t, rfl, ht⟩ := hv
      refine ⟨_, rfl, rfl, _, rfl, iteN rfl ⟨_, rfl, t, [.str r.1, .int r.2], rfl, ?_⟩⟩
      rcases ht.same s1 with z | z
      · exact .inl ⟨.of z, fun l nl => q _ _ (s1.trans (same_upd nl)) ⟨l, rfl, upd_same⟩⟩
      · exact .inr ⟨.of z, q H1 _ s1 ⟨t, rfl, z⟩⟩
end
end UP

set_option Elab.async false
set_option linter.all false
set_option maxRecDepth 100000
set_option maxHeartbeats 4000000
namespace UP
open PySem PySem.Spec PyProof.Rows L2
section
variable {P : Program} {w : World} {K : PySem.W.Frag} {mg : Str → Option Value} {base : Heap}
def lenR (rs : List Run) : Int := (rs.map (·.2)).sum
/-! length_of: slots 0:runs 1:kind 2:count -/
abbrev s_length_of : Stmt := topS 21
theorem sc_length_of : FnScope ["runs", "kind", "count"] ["runs"] (defScope s_length_of) := ⟨rfl, rfl, rfl, by decide +kernel, rfl, by decide +kernel, by decide +kernel⟩
def sp_length_of : Sp := fun vs H Q _ => ∃ (a : Addr) (rs : List Run), vs = [.ref a] ∧ Runs H a rs ∧ rs.length ≤ 1000 ∧ ∀ H', Same H H' → Q (.int (lenR rs)) H'
theorem ok_length_of (D : Df K mg "length_of" s_length_of) (T : Tx mg) : Has P w K mg base 1 "length_of" ["runs"] sp_length_of := by
  refine has_of D sc_length_of (fun _ _ _ _ _ _ us hl => match us, hl with | [_], _ => rfl) (fun vs H Q E h => ?_) (fun f cdv A outer s H vs Q E hr h => ?_)
  · obtain ⟨v, r, rfl, _⟩ := h
    rfl
  · obtain ⟨a, rs, rfl, ⟨xs, hx, hp⟩, l4, q⟩ := h
    have lx : xs.length = rs.length := Paired.len hp
    refine ⟨_, (pss_one (ps_ret (pe_callB (cr_sum rfl) (by rfl) T.n_sum (by decide +kernel) (pa_cons (pe_lc (own := [("kind", 1), ("count", 2)]) rfl sc_length_of.nd (pi_list (pv 0)) (blkOk_by (N := ["runs", "kind", "count"]) (sc := defScope s_length_of) (by decide +kernel)) (fun _ _ _ _ _ => (pg_tupK (K := K) (n := 2) rfl rfl (pgs_cons (pg_name (i := 1) sc_length_of.nd rfl (by first | exact Or.inl rfl | exact Or.inr rfl)) (pgs_cons (pg_name (i := 2) sc_length_of.nd rfl (by first | exact Or.inl rfl | exact Or.inr rfl)) pgs_nil)))) (fun _ _ _ _ _ => pts_nil) (fun _ _ _ _ _ => (pv 2))) pa_nil)))), ?_⟩
    refine ⟨_, rfl, a, rfl, ⟨xs, .of hx⟩, fun L nL => lc_list (K := K) (a := a) (xs := xs) (fun i H' => Same H H' ∧ H' L = some (.lst (((rs.map (·.2)).take i).map V.int))) ⟨same_upd nL, upd_same⟩ (fun i H' _ p => .of (p.1 _ _ hx)) (fun i x H2 ex p => ?_) (fun H2 p => ?_)⟩
    · obtain ⟨sm, hL⟩ := p
      obtain ⟨r, er, hr1⟩ := Paired.at hp ex
      have hi : i < xs.length := (List.getElem?_eq_some_iff.mp ex).1
      obtain ⟨t, rfl, ht⟩ := RunV.same sm hr1
      refine ⟨t, _, rfl, .of ht, rfl, _, _, rfl, _, _, rfl, rfl, rfl, yesT ⟨_, rfl, _, hL, ?_, same_grow nL sm, ?_⟩⟩
      · simp only [List.length_map, List.length_take]
        exact small (by omega)
      · rw [upd_same, take_snoc (x := r.2) (by rw [List.getElem?_map, er]; rfl), List.map_append]
        rfl
    · refine ⟨L, (rs.map (fun r : Run => r.2)), rfl, .of ?_, q H2 p.1⟩
      have := p.2
      rw [List.take_of_length_le (by rw [List.length_map]; omega)] at this
      exact this
end
end UP

set_option Elab.async false
set_option linter.all false
set_option maxRecDepth 100000
set_option maxHeartbeats 4000000
namespace UP
open PySem PySem.Spec PyProof.Rows L2
/-! ### the mirror of cut -/
theorem lenR_nil : lenR [] = 0 := rfl
theorem lenR_cons (r : Run) (l : List Run) : lenR (r :: l) = r.2 + lenR l := by
  unfold lenR
  rw [List.map_cons, List.sum_cons]
theorem lenR_app (l m : List Run) : lenR (l ++ m) = lenR l + lenR m := by
  induction l with
  | nil => rw [List.nil_append, lenR_nil]; omega
  | cons r t ih => rw [List.cons_append, lenR_cons, lenR_cons, ih]; omega
theorem lenR_snoc (l : List Run) (r : Run) : lenR (l ++ [r]) = lenR l + r.2 := by
  rw [lenR_app, lenR_cons, lenR_nil]
  omega
def sizeR (b s e c : Int) : Int := (if b + c < e then b + c else e) - (if b > s then b else s)
def pieceR (b s e : Int) (r : Run) : List Run := if 0 < sizeR b s e r.2 then [(r.1, sizeR b s e r.2)] else []
def cutR (s e : Int) : Int → List Run → List Run
  | _, [] => []
  | b, r :: t => pieceR b s e r ++ cutR s e (b + r.2) t
theorem cutR_snoc (s e : Int) : ∀ (l : List Run) (b : Int) (r : Run), cutR s e b (l ++ [r]) = cutR s e b l ++ pieceR (b + lenR l) s e r
  | [], b, r => by
    show pieceR b s e r ++ [] = [] ++ pieceR (b + lenR []) s e r
    rw [lenR_nil, Int.add_zero, List.append_nil, List.nil_append]
  | x :: t, b, r => by
    show pieceR b s e x ++ cutR s e (b + x.2) (t ++ [r]) = (pieceR b s e x ++ cutR s e (b + x.2) t) ++ pieceR (b + lenR (x :: t)) s e r
    rw [cutR_snoc s e t, lenR_cons, List.append_assoc, Int.add_assoc]
theorem pieceR_len (b s e : Int) (r : Run) : (pieceR b s e r).length ≤ 1 := by
  unfold pieceR
  split <;> simp
theorem cutR_len (s e : Int) : ∀ (l : List Run) (b : Int), (cutR s e b l).length ≤ l.length
  | [], _ => Nat.le_refl _
  | r :: t, b => by
    show (pieceR b s e r ++ cutR s e (b + r.2) t).length ≤ (r :: t).length
    have h1 := pieceR_len b s e r
    have h2 := cutR_len s e t (b + r.2)
    rw [List.length_append, List.length_cons]
    omega
section
variable {P : Program} {w : World} {K : PySem.W.Frag} {mg : Str → Option Value} {base : Heap}
end
end UP

set_option Elab.async false
set_option linter.all false
set_option maxRecDepth 100000
set_option maxHeartbeats 4000000
namespace UP
open PySem PySem.Spec PyProof.Rows L2
/-! ### the mirror of the states -/
def numR : Option Run → Int
  | none => 0
  | some r => r.2
def leavR : Option Run → Str → Int → Int
  | none, _, _ => 0
  | some r, k, c => if r.1 = k then 0 else if c < r.2 then c else r.2
def stepR : Option Run → Str → Int → Option Run
  | some r, k, c => if r.1 = k then some (k, r.2 + c) else if 0 < r.2 - c then some (r.1, r.2 - c) else if r.2 - c = 0 then none else some (k, -(r.2 - c))
  | none, k, c => some (k, c)
def withR (k : Str) (n : Int) : Option Run := if n = 0 then none else some (k, n)
def stR (rs : List Run) (st : Option Run) : Option Run := rs.foldl (fun s r => stepR s r.1 r.2) st
theorem stR_snoc (l : List Run) (r : Run) (st : Option Run) : stR (l ++ [r]) st = stepR (stR l st) r.1 r.2 := by
  unfold stR
  rw [List.foldl_append]
  rfl
section
variable {P : Program} {w : World} {K : PySem.W.Frag} {mg : Str → Option Value} {base : Heap}
/-! waiting_number: slots 0:state -/
abbrev s_waiting_number : Stmt := topS 24
theorem sc_waiting_number : FnScope ["state"] ["state"] (defScope s_waiting_number) := ⟨rfl, rfl, rfl, by decide +kernel, rfl, by decide +kernel, by decide +kernel⟩
def sp_waiting_number : Sp := fun vs H Q _ => ∃ (v : V) (st : Option Run), vs = [v] ∧ StV H v st ∧ Q (.int (numR st)) H
theorem ok_waiting_number (D : Df K mg "waiting_number" s_waiting_number) : Has P w K mg base 1 "waiting_number" ["state"] sp_waiting_number := by
  refine has_of D sc_waiting_number (fun _ _ _ _ _ _ us hl => match us, hl with | [_], _ => rfl) (fun vs H Q E h => ?_) (fun f cdv A outer s₀ H vs Q E hr h => ?_)
  · obtain ⟨a, rs, rfl, _⟩ := h
    rfl
  · obtain ⟨v, st, rfl, hv, q⟩ := h
    refine ⟨_, (pss_one (ps_ret (pe_ifExp (pt_cmpR op_isN (pv 0) pe_non (nomark _)) pe_int (pe_ix ix_tup (pv 0) pe_int (fun _ _ => rfl))))), ?_⟩
    cases st with
    | none =>
      cases hv
      exact ⟨_, rfl, rfl, _, rfl, iteP rfl q⟩
    | some r =>
      obtain ⟨t, rfl, ht⟩ := hv
      exact ⟨_, rfl, rfl, _, rfl, iteN rfl ⟨_, rfl, t, _, 1, _, rfl, rfl, .of ht, at1, q⟩⟩
/-! state_with: slots 0:kind 1:number -/
abbrev s_state_with : Stmt := topS 26
theorem sc_state_with : FnScope ["kind", "number"] ["kind", "number"] (defScope s_state_with) := ⟨rfl, rfl, rfl, by decide +kernel, rfl, by decide +kernel, by decide +kernel⟩
def sp_state_with : Sp := fun vs H Q _ => ∃ (k : Str) (n : Int), vs = [.str k, .int n] ∧ ∀ H' v', Same H H' → StV H' v' (withR k n) → Q v' H'
theorem ok_state_with (D : Df K mg "state_with" s_state_with) : Has P w K mg base 1 "state_with" ["kind", "number"] sp_state_with := by
  refine has_of D sc_state_with (fun _ _ _ _ _ _ us hl => match us, hl with | [_, _], _ => rfl) (fun vs H Q E h => ?_) (fun f cdv A outer s₀ H vs Q E hr h => ?_)
  · obtain ⟨k, n, rfl, _⟩ := h
    rfl
  · obtain ⟨k, n, rfl, q⟩ := h
    refine ⟨_, (pss_one (ps_ret (pe_ifExp (pt_cmpR op_eq (pv 1) pe_int (nomark _)) pe_non (pe_tup (pa_cons (pv 0) (pa_cons (pv 1) pa_nil)))))), ?_⟩
    refine ⟨_, rfl, rfl, _, rfl, ?_⟩
    by_cases e : n = 0
    · rw [show withR k n = none from if_pos e] at q
      exact iteP (decide_eq_true (by rw [e])) (q _ _ (Same.refl _) rfl)
    · rw [show withR k n = some (k, n) from if_neg e] at q
      refine iteN (decide_eq_false fun z => e (V.int.inj z)) ?_
      exact ⟨_, rfl, _, rfl, (by show 2 ≤ sizeLine; decide), fun n' nn => q _ _ (same_upd nn) ⟨n', rfl, upd_same⟩⟩
/-! state_after_run: slots 0:state 1:kind 2:count 3:left_over -/
abbrev s_state_after_run : Stmt := topS 27
theorem sc_state_after_run : FnScope ["state", "kind", "count", "left_over"] ["state", "kind", "count"] (defScope s_state_after_run) := ⟨rfl, rfl, rfl, by decide +kernel, rfl, by decide +kernel, by decide +kernel⟩
def sp_state_after_run : Sp := fun vs H Q _ => ∃ (v : V) (st : Option Run) (k : Str) (c : Int), vs = [v, .str k, .int c] ∧ StV H v st ∧ 1 ≤ c ∧ ∀ H' v', Same H H' → StV H' v' (stepR st k c) → Q v' H'
theorem ok_state_after_run (D : Df K mg "state_after_run" s_state_after_run) (G_waiting_number : Has P w K mg base 1 "waiting_number" ["state"] sp_waiting_number) (G_state_with : Has P w K mg base 1 "state_with" ["kind", "number"] sp_state_with) : Has P w K mg base 2 "state_after_run" ["state", "kind", "count"] sp_state_after_run := by
  refine has_of D sc_state_after_run (fun _ _ _ _ _ _ us hl => match us, hl with | [_, _, _], _ => rfl) (fun vs H Q E h => ?_) (fun f cdv A outer s₀ H vs Q E hr h => ?_)
  · obtain ⟨a, rs, _, _, rfl, _⟩ := h
    rfl
  · obtain ⟨v, st, k, c, rfl, hv, hc, q⟩ := h
    refine ⟨_, (pss_cons (ps_if (PW.pt (pw_and (pt_cmpR op_notN (pv 0) pe_non (nomark _)) (pw_and1 (pt_cmpR op_eq (pe_ix ix_tup (pv 0) pe_int (fun _ _ => rfl)) (pv 1) (nomark _))))) (pss_one (ps_ret (pe_tup (pa_cons (pv 1) (pa_cons (pe_op op_add (pe_ix ix_tup (pv 0) pe_int (fun _ _ => rfl)) (pv 2)) pa_nil))))) pss_nil)
    (pss_cons (ps_set (i := 3) sc_state_after_run.nd rfl (by first | exact Or.inl rfl | exact Or.inr rfl) (pe_op op_sub (pe_callH G_waiting_number (hr.mono (by omega)) (by rfl) (pa_cons (pv 0) pa_nil)) (pv 2)))
    (pss_cons (ps_if (pt_cmpR op_gt (pv 3) pe_int (nomark _)) (pss_one (ps_ret (pe_tup (pa_cons (pe_ix ix_tup (pv 0) pe_int (fun _ _ => rfl)) (pa_cons (pv 3) pa_nil))))) pss_nil)
    (pss_one (ps_ret (pe_callH G_state_with (hr.mono (by omega)) (by rfl) (pa_cons (pv 1) (pa_cons (pe_un un_neg (pv 3)) pa_nil)))))))), ?_⟩
    cases st with
    | none =>
      cases hv
      refine ⟨_, rfl, rfl, _, rfl, iteN rfl (iteF ?_)⟩
      refine ⟨_, rfl, _, none, rfl, rfl, _, rfl, _, _, rfl, rfl, ?_⟩
      refine ⟨_, rfl, _, _, rfl, rfl, _, rfl, iteN (decide_eq_false (by show ¬ (0 : Int) < 0 - c; omega)) ?_⟩
      refine ⟨_, rfl, _, rfl, _, rfl, k, -(0 - c), rfl, fun H' v' s h => q H' v' s ?_⟩
      have e : withR k (-(0 - c)) = some (k, c) := by
        unfold withR
        rw [if_neg (by omega), show -(0 - c) = c by omega]
      rw [e] at h
      exact h
    | some r =>
      obtain ⟨t, rfl, ht⟩ := hv
      refine ⟨_, rfl, rfl, _, rfl, iteP rfl ⟨_, rfl, t, _, 0, _, rfl, rfl, .of ht, at0, _, rfl, rfl, _, rfl, ?_⟩⟩
      by_cases e : r.1 = k
      · have es : stepR (some r) k c = some (k, r.2 + c) := if_pos e
        rw [es] at q
        refine iteP (by rw [e]; exact decide_eq_true rfl) ?_
        exact ⟨_, rfl, _, rfl, t, _, 1, _, rfl, rfl, .of ht, at1, _, rfl, _, _, rfl, rfl, (by show 2 ≤ sizeLine; decide), fun n nn => q _ _ (same_upd nn) ⟨n, rfl, upd_same⟩⟩
      · refine iteN (decide_eq_false fun z => e (V.str.inj z)) ?_
        have es : stepR (some r) k c = if 0 < r.2 - c then some (r.1, r.2 - c) else if r.2 - c = 0 then none else some (k, -(r.2 - c)) := if_neg e
        rw [es] at q
        refine ⟨_, rfl, _, some r, rfl, ⟨t, rfl, ht⟩, _, rfl, _, _, rfl, rfl, ?_⟩
        refine ⟨_, rfl, _, _, rfl, rfl, _, rfl, ?_⟩
        by_cases e1 : 0 < r.2 - c
        · rw [if_pos e1] at q
          refine iteP (decide_eq_true e1) ?_
          exact ⟨_, rfl, t, _, 0, _, rfl, rfl, .of ht, at0, _, rfl, (by show 2 ≤ sizeLine; decide), fun n nn => q _ _ (same_upd nn) ⟨n, rfl, upd_same⟩⟩
        · rw [if_neg e1] at q
          refine iteN (decide_eq_false e1) ⟨_, rfl, _, rfl, _, rfl, k, -(r.2 - c), rfl, fun H' v' s h => q H' v' s ?_⟩
          have e3 : withR k (-(r.2 - c)) = if r.2 - c = 0 then none else some (k, -(r.2 - c)) := by
            unfold withR
            by_cases e2 : r.2 - c = 0
            · rw [if_pos e2, if_pos (by omega)]
            · rw [if_neg e2, if_neg (by omega)]
          rw [e3] at h
          exact h
end
end UP

set_option Elab.async false
set_option linter.all false
set_option maxRecDepth 100000
set_option maxHeartbeats 4000000
namespace UP
open PySem PySem.Spec PyProof.Rows L2
def DfD (K : PySem.W.Frag) (mg : Str → Option Value) (x : Str) (st : Stmt) (dvs : List V) : Prop := ∃ f fd, mg x = some (.ref f) ∧ FunD K x x (defArgs st) (defBody st) (defScope st) dvs [] f fd
/-- a def whose last parameter, kw, has the default None -/
def HasD (P : Program) (w : World) (K : PySem.W.Frag) (mg : Str → Option Value) (base : Heap) (k : Nat) (x : Str) (ps : List Str) (n : Nat) (kw : Str) (sp : Sp) : Prop :=
  ∃ f fd, mg x = some (.ref f) ∧ PySem.W.keepIn K (.ref f) = true ∧ Binds K fd ps [] ∧ (∃ ds, Vals [.non] ds ∧ Binds K fd ps ds) ∧ KBn K fd ps n [kw] (fun us ws => us ++ ws) (fun vs zs => vs ++ zs) ∧ FnOk P w K mg base CX0 k f fd ps sp
section
variable {P : Program} {w : World} {K : PySem.W.Frag} {mg : Str → Option Value} {base : Heap}
theorem HasD.has {k n : Nat} {x kw : Str} {ps : List Str} {sp : Sp} (h : HasD P w K mg base k x ps n kw sp) : Has P w K mg base k x ps sp := by
  obtain ⟨f, fd, g, kp, b, _, _, F⟩ := h
  exact ⟨f, fd, g, kp, b, F⟩
theorem has_ofD {x kw : Str} {st : Stmt} {ps N : List Str} {k n : Nat} {sp : Sp} (D : DfD K mg x st [.non]) (S : FnScope N ps (defScope st)) (hpn : ps.length = n + 1)
    (hb : ∀ (T : Addr) (kV doc pm : Value) (an : Option Addr) (cdv ct : Value) (us its : List Value), us.length = n + 1 → its.length = 1 →
      ∃ k, bindArgs (PySem.W.fnOf x x (defArgs st) (defBody st) (defScope st) (.ref T) kV doc pm an cdv ct) ⟨us, []⟩ = seqItems? (.ref T) >>= k ∧ k (some its.toArray) = pure (ps.zip us))
    (hb1 : ∀ (T : Addr) (kV doc pm : Value) (an : Option Addr) (cdv ct : Value) (us its : List Value), us.length = n → its.length = 1 →
      ∃ k, bindArgs (PySem.W.fnOf x x (defArgs st) (defBody st) (defScope st) (.ref T) kV doc pm an cdv ct) ⟨us, []⟩ = seqItems? (.ref T) >>= k ∧ k (some its.toArray) = pure (ps.zip (us ++ its)))
    (hb2 : ∀ (T : Addr) (kV doc pm : Value) (an : Option Addr) (cdv ct : Value) (us its : List Value) (v : Value), us.length = n → its.length = 1 →
      ∃ k, bindArgs (PySem.W.fnOf x x (defArgs st) (defBody st) (defScope st) (.ref T) kV doc pm an cdv ct) ⟨us, [(kw, v)]⟩ = seqItems? (.ref T) >>= k ∧ k (some its.toArray) = pure (ps.zip (us ++ [v])))
    (len : ∀ vs H Q E, sp vs H Q E → vs.length = ps.length)
    (body : ∀ (f : Addr) (cdv : Value) (A : Around) (outer : List Env) (s : Shared) (H : Hp) (vs : List V) (Q : VK) (E : XK), Room k (A.deeper (envOfC x (defScope st) s.heap.objs.size f cdv)) → sp vs H Q E →
      ∃ t, PSs (cxOf CX0 P w K mg base N x (defScope st) f cdv A outer s H E).nox (defBody st) t ∧ t { nx := fun _ H' => Q .non H', rt := Q } (start N vs) H) :
    HasD P w K mg base (k + 1) x ps n kw sp := by
  obtain ⟨f, fd, g, F⟩ := D
  have B0 : Binds K fd ps [] := by
    obtain ⟨ds, v, b⟩ := F.binds1 (n + 1) 1 (ps := ps) (by intro z; cases z) (by rw [hpn]; rfl) fun T kV doc pm an cdv ct us its h1 h2 => by
      obtain ⟨k, e1, e2⟩ := hb T kV doc pm an cdv ct us its h1 h2
      refine ⟨k, e1, ?_⟩
      have h3 : its.length ≤ 1 := Nat.le_of_eq h2
      rw [e2, List.drop_of_length_le h3, List.append_nil]
    cases v
    exact b
  have B1 : ∃ ds, Vals [V.non] ds ∧ Binds K fd ps ds := by
    obtain ⟨ds, v, b⟩ := F.binds1 n 0 (ps := ps) (by intro z; cases z) (by rw [hpn]; rfl) fun T kV doc pm an cdv ct us its h1 h2 => by
      obtain ⟨k, e1, e2⟩ := hb1 T kV doc pm an cdv ct us its h1 h2
      exact ⟨k, e1, by rw [e2, List.drop_zero]⟩
    exact ⟨ds, v, b⟩
  have B2 : KBn K fd ps n [kw] (fun us ws => us ++ ws) (fun vs zs => vs ++ zs) := by
    refine ⟨fun s us ws X l1 l2 => ?_, fun r1 r2 => r1.append r2⟩
    obtain ⟨oc, od, dV, kV, doc, pm, an, cdv, ct, osl, rfl, lk, hcd, hD, _⟩ := F.ex
    rcases hD with ⟨z, _⟩ | ⟨_, T, o, its, m, rfl, lT, oT, rT⟩
    · cases z
    · match ws, l2 with
      | [v], _ =>
        obtain ⟨k, e1, e2⟩ := hb2 T kV doc pm an cdv ct us its v l1 rT.length.symm
        refine BindsTo.of_looks fun M => ?_
        show PySem.W.Looks M s.heap (bindArgs _ ⟨us, [(kw, v)]⟩) _
        rw [e1]
        exact looks_items X lT oT (.of_pure e2)
  refine ⟨f, fd, g, F.kp, B0, B1, B2, F.ok S len fun cdv A outer s H vs Q E hr h => ?_⟩
  obtain ⟨t, p, q⟩ := body f cdv A outer s H vs Q E hr h
  exact ⟨t, p.nox, q⟩
end
section
variable {X : Cx}
/-- the default taken -/
theorem pe_callDH {k n : Nat} {x kw : Str} {ps : List Str} {sp : Sp} {p pos : Pos} {e : Expr} {es : List Expr} {t : TA} (G : HasD X.prog X.w X.K X.mg X.base k x ps n kw sp) (hr : Room k X.A) (hg : Gl X x) (ha : PA X (e :: es) t)
    (hdb : (x == ("__debug__" : Str)) = false := by decide) (he : starEach (e :: es) X.env = (false, eval e X.env) :: starEach es X.env := by rfl) (hpl : (backTo pos (starEach es X.env)).any (·.1) = false := by rfl) :
    PE X (.Call (.Name x p) (e :: es) [] pos) (tCall sp [.non] E0 t) := by
  obtain ⟨f, fd, g, kp, _, ⟨ds, v, b⟩, _, F⟩ := G
  exact pe_call F hr hg g kp b v pass0 ha hdb he hpl
/-- the last one by its name -/
theorem pe_callNH {k n : Nat} {x kw : Str} {ps : List Str} {sp : Sp} {p pos : Pos} {e : Expr} {es : List Expr} {kws : List Keyword} {t tk : TA} (G : HasD X.prog X.w X.K X.mg X.base k x ps n kw sp) (hr : Room k X.A) (hg : Gl X x) (ha : PA X (e :: es) t) (hk : PK X kws tk)
    (h1 : (backToKw pos (keywordEach kws X.env)).all (·.1.isSome) = true := by rfl) (h2 : (backToKw pos (keywordEach kws X.env)).filterMap (·.1) = [kw] := by rfl) (hdb : (x == ("__debug__" : Str)) = false := by decide)
    (he : starEach (e :: es) X.env = (false, eval e X.env) :: starEach es X.env := by rfl) (hpl : ((backTo pos (starEach (e :: es) X.env)).any (·.1) || (backToKw pos (keywordEach kws X.env)).any (·.1.isNone)) = false := by rfl) :
    PE X (.Call (.Name x p) (e :: es) kws pos) (tCallN n 1 sp (fun vs zs => vs ++ zs) E0 t tk) := by
  obtain ⟨f, fd, g, kp, _, _, b, F⟩ := G
  exact pe_callN F hr hg g kp b pass0 ha hk h1 h2 hdb he hpl
end
section
variable {P : Program} {w : World} {K : PySem.W.Frag} {mg : Str → Option Value} {base : Heap}
theorem SeqOk.pos {rs : List Run} (h : SeqOk rs) : ∀ r ∈ rs, 1 ≤ r.2 := fun r m => (h.2.1 r m).2.1
theorem pieceR_pos {b s e : Int} {r x : Run} (h : x ∈ pieceR b s e r) : 1 ≤ x.2 := by
  unfold pieceR at h
  split at h
  · rename_i z
    simp only [List.mem_singleton] at h
    subst h
    show 1 ≤ sizeR b s e r.2
    omega
  · cases h
theorem cutR_pos {s e : Int} : ∀ {l : List Run} {b : Int}, ∀ x ∈ cutR s e b l, 1 ≤ x.2
  | [], _, x, h => by cases h
  | r :: t, b, x, h => by
    rcases List.mem_append.mp (show x ∈ pieceR b s e r ++ cutR s e (b + r.2) t from h) with h | h
    · exact pieceR_pos h
    · exact cutR_pos x h
end
end UP

set_option Elab.async false
set_option linter.all false
set_option maxRecDepth 100000
set_option maxHeartbeats 4000000
namespace UP
open PySem PySem.Spec PyProof.Rows L2
section
variable {P : Program} {w : World} {K : PySem.W.Frag} {mg : Str → Option Value} {base : Heap}
end
end UP

set_option Elab.async false
set_option linter.all false
set_option maxRecDepth 100000
set_option maxHeartbeats 4000000
namespace UP
open PySem PySem.Spec PyProof.Rows L2
/-! ### data -/
def dRun (r : Run) : PyData := .tuple [.str r.1, .int r.2]
theorem dp_run {K : PySem.W.Frag} {H : Hp} {v : V} {r : Run} (h : RunV H v r) : Dp K H v (dRun r) := by
  obtain ⟨t, rfl, h⟩ := h
  exact .tup (.of h) (.cons (.str _) (.cons (.int _) .nil))
theorem dp_all {K : PySem.W.Frag} {H : Hp} : ∀ {xs : List V} {rs : List Run}, Paired (RunV H) xs rs → DpAll K H xs (rs.map dRun)
  | _, _, .nil => .nil
  | _, _, .cons h t => .cons (dp_run h) (dp_all t)
theorem KindOk.str {s : Str} (h : KindOk s) : PyData.strOk s = true := by
  unfold PyData.strOk
  rw [Array.all_eq_true']
  intro c hc
  have := h.2.2 c (by simpa using hc)
  exact decide_eq_true (by omega)
theorem can_run {r : Run} (h : KindOk r.1) : (dRun r).canLay0 = true := by
  simp [dRun, PyData.canLay0, PyData.canLayAll0, h.str]
theorem can_runs : ∀ {rs : List Run}, (∀ r ∈ rs, KindOk r.1) → PyData.canLayAll0 (rs.map dRun) = true
  | [], _ => by simp [PyData.canLayAll0]
  | r :: t, h => by
    rw [List.map_cons, PyData.canLayAll0, can_run (h r (List.mem_cons_self ..)), can_runs fun x hx => h x (List.mem_cons_of_mem _ hx)]
    rfl
theorem depth_run (r : Run) : (dRun r).depth ≤ 2 := by
  simp [dRun, PyData.depth, PyData.depthAll]
theorem depth_runs : ∀ (rs : List Run), PyData.depthAll (rs.map dRun) ≤ 2
  | [] => by simp [PyData.depthAll]
  | r :: t => by
    rw [List.map_cons, PyData.depthAll]
    exact Nat.max_le.mpr ⟨depth_run r, depth_runs t⟩
theorem shaped_runs {rs : List Run} (h : ∀ r ∈ rs, KindOk r.1) : SeqAt.shaped (.list (rs.map dRun)) = true := by
  unfold SeqAt.shaped
  rw [PyData.canLay0, can_runs h, PyData.depth]
  have := depth_runs rs
  exact decide_eq_true (by omega)
theorem shaped_run {r : Run} (h : KindOk r.1) : SeqAt.shaped (dRun r) = true := by
  unfold SeqAt.shaped
  rw [can_run h]
  have := depth_run r
  exact decide_eq_true (by omega)
theorem shaped_nil : SeqAt.shaped (.list []) = true := by decide
theorem eqv_nil (rs : List Run) : PyData.eqv (.list (rs.map dRun)) (.list []) = rs.isEmpty := by
  cases rs with
  | nil => simp [PyData.eqv, PyData.eqvAll]
  | cons r t => simp [PyData.eqv, PyData.eqvAll]
theorem sb {sp : Addr} {H H' : Hp} (h : Same H H') : But sp H H' := fun b o _ e => h b o e
theorem But.free {sp : Addr} {H H' : Hp} (b : But sp H H') (z : Spr H' sp) {p : Addr} (h : H' p = none) : H p = none := by
  by_cases e : p = sp
  · subst e
    obtain ⟨_, _, _, h1, _⟩ := z
    rw [h1] at h
    cases h
  · cases q : H p with
    | none => rfl
    | some o =>
      rw [b p o e q] at h
      cases h
theorem Spr.ne {sp p : Addr} {H : Hp} (z : Spr H sp) (h : H p = none) : p ≠ sp := by
  obtain ⟨_, _, _, h1, _⟩ := z
  exact fun e => by rw [e, h1] at h; cases h
instance (s : Str) : Decidable (KindOk s) := by
  unfold KindOk
  infer_instance
section
variable {P : Program} {w : World} {K : PySem.W.Frag} {mg : Str → Option Value} {base : Heap}
end
end UP

set_option Elab.async false
set_option linter.all false
set_option maxRecDepth 100000
set_option maxHeartbeats 4000000
namespace UP
open PySem PySem.Spec PyProof.Rows L2
theorem pe_bmK {X : Cx} {K : PySem.W.Frag} {e : Expr} {c : String} {r : V → List V → Hp → VK → Prop} {to : TE} {t : TA} (h : X.K = K) (p : PE X e (tBM X.K c r to t)) : PE X e (tBM K c r to t) := h ▸ p
theorem if_by {c : TT} {t u : TS} {D : Ends} {σ : L2.St} {H : Hp} (R : Bool → Hp → Prop) (h : ∀ Q' : Bool → Hp → Prop, (∀ b H', R b H' → Q' b H') → c σ H Q') (ht : ∀ H', R true H' → t D σ H') (hu : ∀ H', R false H' → u D σ H') : tIfS c t u D σ H := by
  refine h _ fun b H' r => ?_
  cases b with
  | true => exact iteT (ht H' r)
  | false => exact iteF (hu H' r)
theorem erase_map {α β : Type} (f : α → β) : ∀ (l : List α) (i : Nat), (l.map f).eraseIdx i = (l.eraseIdx i).map f
  | [], _ => rfl
  | x :: t, 0 => rfl
  | x :: t, i + 1 => by
    simp only [List.map_cons, List.eraseIdx_cons_succ]
    rw [erase_map f t i]
def eight : List Str := ["a", "b", "c", "ab", "zz", "abcdefgh", "aa", "z"]
theorem eight_ok : ∀ s ∈ eight, KindOk s := by decide +kernel
theorem alt_snoc {l : List Run} {x : Run} (h : Alt l) (k : ∀ y, l[l.length - 1]? = some y → y.1 ≠ x.1) : Alt (l ++ [x]) := by
  intro i a b ha hb
  by_cases h1 : i + 1 < l.length
  · rw [List.getElem?_append_left (by omega)] at ha
    rw [List.getElem?_append_left h1] at hb
    exact h i a b ha hb
  · by_cases h2 : i + 1 = l.length
    · rw [List.getElem?_append_left (by omega)] at ha
      rw [List.getElem?_append_right (by omega), h2, Nat.sub_self] at hb
      cases hb
      rw [show i = l.length - 1 by omega] at ha
      exact k a ha
    · rw [List.getElem?_append_right (by omega)] at hb
      rw [List.getElem?_eq_none (by simp; omega)] at hb
      cases hb
theorem pow62 {x : Int} (h0 : 0 ≤ x) (h1 : x ≤ 1000000) : -(2 ^ 62) ≤ x ∧ x < 2 ^ 62 := by omega
theorem wide8 {m : Int} (h0 : 0 ≤ m) (h1 : m ≤ 1000000000000000000000000000000000000000000000000000000000000) : m.natAbs < 2 ^ 8000 :=
  Nat.lt_of_lt_of_le (show m.natAbs < 2 ^ 256 by omega) (Nat.pow_le_pow_right (by decide) (by decide))
section
variable {P : Program} {w : World} {K : PySem.W.Frag} {mg : Str → Option Value} {base : Heap}
end
end UP

set_option Elab.async false
set_option linter.all false
set_option maxRecDepth 100000
set_option maxHeartbeats 4000000
namespace UP
open PySem PySem.Spec PyProof.Rows L2
def scR (t : Int) (rs : List Run) : List Run := rs.map fun r => (r.1, r.2 * t)
def toldR (ws : List Run) : Option Run := match ws with
  | [] => none
  | r :: _ => some (r.1, (ws.length : Int))
def repR (k : Str) (n : Int) : Option Run := if n = 0 then none else some (k, n)
theorem repR_zero (k : Str) : repR k 0 = none := if_pos rfl
theorem repR_pos {k : Str} {n : Int} (h : 0 < n) : repR k n = some (k, n) := if_neg (by omega)
def PosO (st : Option Run) : Prop := ∀ r, st = some r → 1 ≤ r.2
theorem stepR_pos {st : Option Run} {k : Str} {c : Int} (h : PosO st) (hc : 1 ≤ c) : PosO (stepR st k c) := by
  intro r e
  cases st with
  | none =>
    cases e
    exact hc
  | some x =>
    have hx := h x rfl
    have e : (if x.1 = k then some (k, x.2 + c) else if 0 < x.2 - c then some (x.1, x.2 - c) else if x.2 - c = 0 then none else some (k, -(x.2 - c))) = some r := e
    by_cases h1 : x.1 = k
    · rw [if_pos h1] at e
      cases e
      show 1 ≤ x.2 + c
      omega
    · rw [if_neg h1] at e
      by_cases h2 : 0 < x.2 - c
      · rw [if_pos h2] at e
        cases e
        show 1 ≤ x.2 - c
        omega
      · rw [if_neg h2] at e
        by_cases h3 : x.2 - c = 0
        · rw [if_pos h3] at e
          cases e
        · rw [if_neg h3] at e
          cases e
          show 1 ≤ -(x.2 - c)
          omega
theorem stR_cons (r : Run) (l : List Run) (st : Option Run) : stR (r :: l) st = stR l (stepR st r.1 r.2) := rfl
theorem stR_pos : ∀ {rs : List Run} {st : Option Run}, PosO st → (∀ r ∈ rs, 1 ≤ r.2) → PosO (stR rs st)
  | [], _, h, _ => h
  | r :: t, st, h, k => by
    rw [stR_cons]
    exact stR_pos (stepR_pos h (k r (List.mem_cons_self ..))) fun x hx => k x (List.mem_cons_of_mem _ hx)
theorem StOk.pos {st : Option Run} (h : StOk st) : PosO st := fun r e => (h r e).2
section
variable {P : Program} {w : World} {K : PySem.W.Frag} {mg : Str → Option Value} {base : Heap}
end
end UP

set_option Elab.async false
set_option linter.all false
set_option maxRecDepth 100000
set_option maxHeartbeats 4000000
namespace UP
open PySem PySem.Spec PyProof.Rows L2
/-! ### plain data, by depth -/
def Dsc (v : V) (d : PyData) : Prop := (v = .non ∧ d = .none) ∨ (∃ b, v = .bl b ∧ d = .bool b) ∨ (∃ i, v = .int i ∧ d = .int i) ∨ ∃ s, v = .str s ∧ d = .str s
def Dt (H : Hp) : Nat → V → PyData → Prop
  | 0, v, d => Dsc v d
  | n + 1, v, d => Dsc v d ∨ (∃ a xs ds, v = .ref a ∧ H a = some (.lst xs) ∧ d = .list ds ∧ Paired (Dt H n) xs ds ∧ ds.length ≤ 100000) ∨ ∃ a xs ds, v = .ref a ∧ H a = some (.tup xs) ∧ d = .tuple ds ∧ Paired (Dt H n) xs ds ∧ ds.length ≤ 100000
theorem Dt.same {H H' : Hp} (s : Same H H') : ∀ {n : Nat} {v : V} {d : PyData}, Dt H n v d → Dt H' n v d
  | 0, _, _, h => h
  | n + 1, v, d, h => by
    rcases h with h | ⟨a, xs, ds, e, h, e2, p, l⟩ | ⟨a, xs, ds, e, h, e2, p, l⟩
    · exact .inl h
    · exact .inr (.inl ⟨a, xs, ds, e, s _ _ h, e2, Paired.imp (fun _ _ z => Dt.same s z) p, l⟩)
    · exact .inr (.inr ⟨a, xs, ds, e, s _ _ h, e2, Paired.imp (fun _ _ z => Dt.same s z) p, l⟩)
theorem dsc_ref {a : Addr} {d : PyData} (h : Dsc (.ref a) d) : False := by
  rcases h with ⟨h, _⟩ | ⟨_, h, _⟩ | ⟨_, h, _⟩ | ⟨_, h, _⟩ <;> cases h
theorem dsc_lst {v : V} {ds : List PyData} (h : Dsc v (.list ds)) : False := by
  rcases h with ⟨_, h⟩ | ⟨_, _, h⟩ | ⟨_, _, h⟩ | ⟨_, _, h⟩ <;> cases h
theorem dsc_tup {v : V} {ds : List PyData} (h : Dsc v (.tuple ds)) : False := by
  rcases h with ⟨_, h⟩ | ⟨_, _, h⟩ | ⟨_, _, h⟩ | ⟨_, _, h⟩ <;> cases h
theorem dsc_one {v v' : V} {d : PyData} (h : Dsc v d) (h' : Dsc v' d) : v = v' := by
  rcases h with ⟨e, z⟩ | ⟨x, e, z⟩ | ⟨x, e, z⟩ | ⟨x, e, z⟩ <;> subst z <;> rcases h' with ⟨e', z⟩ | ⟨y, e', z⟩ | ⟨y, e', z⟩ | ⟨y, e', z⟩ <;> cases z <;> rw [e, e']
theorem kit_no {K : PySem.W.Frag} {c : String} (h1 : kitB c "list" = some false) (h2 : kitB c "tuple" = some false) : PySem.W.kitAny K (.type c) [.type "list", .type "tuple"] = some false :=
  kitAny_cons (b := false) (kit_ty h1) (fun _ => kitAny_cons (b := false) (kit_ty h2) (fun _ => rfl) (fun z => nomatch z)) (fun z => nomatch z)
theorem ixL {K : PySem.W.Frag} {x y : V} {H : Hp} {Q : VK} (h : rIxL K x y H Q) : rIx K x y H Q := .inl h
theorem ixT {K : PySem.W.Frag} {x y : V} {H : Hp} {Q : VK} (h : rIxT K x y H Q) : rIx K x y H Q := .inr (.inl h)
section
variable {P : Program} {w : World} {K : PySem.W.Frag} {mg : Str → Option Value} {base : Heap}
end
end UP

set_option Elab.async false
set_option linter.all false
set_option maxRecDepth 100000
set_option maxHeartbeats 4000000
namespace UP
open PySem PySem.Spec PyProof.Rows L2
/-! ### a walk over one object that stays, whatever else is changed -/
structure WkA (J : It) (H : Hp) (a : Addr) (xs : List V) : Prop where
  go : ∀ i H', H' a = H a → i < xs.length → J.go i H'
  stop : ∀ H', H' a = H a → J.stop xs.length H'
  yld : ∀ i x H' H'', H' a = H a → J.yld i H' x H'' → H'' = H' ∧ xs[i]? = some x
def iSeqA (i : Nat) : TI := fun σ H R => ∃ a xs, σ[i]? = some (some (.ref a)) ∧ Sq2 H a xs ∧ ∀ J, WkA J H a xs → R J H
section
variable {X : Cx}
theorem wka_list {K : PySem.W.Frag} {H : Hp} {a : Addr} {xs : List V} (h : H a = some (.lst xs)) : WkA (Itl K a) H a xs :=
  ⟨fun i H' e hi => ⟨xs, xs[i], .of (e.trans h), List.getElem?_eq_getElem hi⟩, fun H' e => ⟨xs, .of (e.trans h), Nat.le_refl _⟩, fun i x H' H'' e y => ⟨y.1, y.2 xs (.of (e.trans h))⟩⟩
theorem wka_tup {K : PySem.W.Frag} {H : Hp} {a : Addr} {xs : List V} (h : H a = some (.tup xs)) : WkA (Itt K a) H a xs :=
  ⟨fun i H' e hi => ⟨xs, xs[i], .of (e.trans h), List.getElem?_eq_getElem hi⟩, fun H' e => ⟨xs, .of (e.trans h), Nat.le_refl _⟩, fun i x H' H'' e y => ⟨y.1, y.2 xs (.of (e.trans h))⟩⟩
theorem pi_seqA (i : Nat) {x : Str} {pos : Pos} {tg : Expr} (hN : X.N[i]? = some x := by rfl) (hv : Vis X.env.scope x := by first | exact Or.inl rfl | exact Or.inr (Or.inl rfl) | exact Or.inr (Or.inr rfl)) (hd : (x == ("__debug__" : Str)) = false := by decide)
    (hc : (x == ("__classdict__" : Str)) = false := by decide) : PI X tg (.Name x pos) (iSeqA i) := by
  refine ⟨fun pins s σ H R I hw => ?_⟩
  obtain ⟨a, xs, e, h, k⟩ := hw
  rcases h with h | h
  · exact (pi_list (pe_var hN hv hd hc)).run pins s σ H R I ⟨_, e, a, rfl, ⟨xs, .of h⟩, k _ (wka_list h)⟩
  · exact (pi_tup (pe_var hN hv hd hc)).run pins s σ H R I ⟨_, e, a, rfl, ⟨xs, .of h⟩, k _ (wka_tup h)⟩
end
theorem lc_wka {J : It} {H0 H1 : Hp} {a : Addr} {xs : List V} {g : TG} {tt : TT} {te : TE} {vs : List Nat} {σ : L2.St} {D : Addr} {Qd : Hp → Prop} (wk : WkA J H0 a xs) (Pv : Nat → Hp → Prop) (hsm : ∀ i H, Pv i H → H a = H0 a) (h0 : Pv 0 (upd H1 D (.lst [])))
    (hs : ∀ i x H, xs[i]? = some x → Pv i H → g x (wipe σ vs) H fun σ2 H2 => wipe σ2 vs = wipe σ vs ∧ tt σ2 H2 fun b H3 =>
      if b = true then te σ2 H3 fun y H4 => ∃ acc, H4 D = some (.lst acc) ∧ acc.length < sizeLine ∧ Pv (i + 1) (upd H4 D (.lst (acc ++ [y]))) else Pv (i + 1) H3) (hd : ∀ H, Pv xs.length H → Qd H) :
    ∃ W : Nat → Nat → Hp → Prop, (∃ m, W 0 m (upd H1 D (.lst []))) ∧ ∀ i m H, W i m H →
      (J.stop i H ∧ Qd H) ∨ (J.go i H ∧ ∃ Nx : Hp → Prop, (∀ H', Nx H' → ∃ m', m' < m ∧ W (i + 1) m' H') ∧ ∀ x H', J.yld i H x H' → g x (wipe σ vs) H' fun σ2 H2 => wipe σ2 vs = wipe σ vs ∧ tt σ2 H2 fun b H3 =>
        if b = true then te σ2 H3 fun y H4 => ∃ acc, H4 D = some (.lst acc) ∧ acc.length < sizeLine ∧ Nx (upd H4 D (.lst (acc ++ [y]))) else Nx H3) := by
  refine lc_gen Pv h0 (fun i H hi p => wk.go i H (hsm i H p) hi) (fun H p => wk.stop H (hsm _ H p)) (fun i x H H' hi p y => ?_) hd
  obtain ⟨e, ex⟩ := wk.yld i x H H' (hsm i H p) y
  subst e
  exact hs i x _ ex p
theorem for_gen {J : It} {n : Nat} {H : Hp} {g : TG} {tb : TS} {D : Ends} {σ : L2.St} (Pv : Nat → L2.St → Hp → Prop) (h0 : Pv 0 σ H) (hg : ∀ i σ H, i < n → Pv i σ H → J.go i H) (hst : ∀ σ H, Pv n σ H → J.stop n H)
    (hs : ∀ i x σ H H', i < n → Pv i σ H → J.yld i H x H' → g x σ H' fun σ2 H2 => tb { D with nx := Pv (i + 1), ct := Pv (i + 1), bk := D.nx } σ2 H2) (hd : ∀ σ H, Pv n σ H → D.nx σ H) :
    ∃ W : Nat → Nat → L2.St → Hp → Prop, (∃ m, W 0 m σ H) ∧ ∀ i m σ H, W i m σ H →
      (J.stop i H ∧ D.nx σ H) ∨ (J.go i H ∧ ∃ N : L2.St → Hp → Prop, (∀ σ' H', N σ' H' → ∃ m', m' < m ∧ W (i + 1) m' σ' H') ∧ ∀ x H', J.yld i H x H' → g x σ H' fun σ2 H2 => tb { D with nx := N, ct := N, bk := D.nx } σ2 H2) := by
  refine ⟨fun i m σ H => m = n - i ∧ i ≤ n ∧ Pv i σ H, ⟨n, by omega, Nat.zero_le _, h0⟩, ?_⟩
  rintro i m σ H ⟨rfl, hi, p⟩
  by_cases hlt : i < n
  · exact Or.inr ⟨hg i σ H hlt p, Pv (i + 1), fun σ' H' p' => ⟨n - (i + 1), by omega, rfl, hlt, p'⟩, fun x H' y => hs i x σ H H' hlt p y⟩
  · have e : i = n := by omega
    subst e
    exact Or.inl ⟨hst σ H p, hd σ H p⟩
theorem for_wka {J : It} {H0 H : Hp} {a : Addr} {xs : List V} {g : TG} {tb : TS} {D : Ends} {σ : L2.St} (wk : WkA J H0 a xs) (Pv : Nat → L2.St → Hp → Prop) (hsm : ∀ i σ H, Pv i σ H → H a = H0 a) (h0 : Pv 0 σ H)
    (hs : ∀ i x σ H, xs[i]? = some x → Pv i σ H → g x σ H fun σ2 H2 => tb { D with nx := Pv (i + 1), ct := Pv (i + 1), bk := D.nx } σ2 H2) (hd : ∀ σ H, Pv xs.length σ H → D.nx σ H) :
    ∃ W : Nat → Nat → L2.St → Hp → Prop, (∃ m, W 0 m σ H) ∧ ∀ i m σ H, W i m σ H →
      (J.stop i H ∧ D.nx σ H) ∨ (J.go i H ∧ ∃ N : L2.St → Hp → Prop, (∀ σ' H', N σ' H' → ∃ m', m' < m ∧ W (i + 1) m' σ' H') ∧ ∀ x H', J.yld i H x H' → g x σ H' fun σ2 H2 => tb { D with nx := N, ct := N, bk := D.nx } σ2 H2) := by
  refine for_gen Pv h0 (fun i σ H hi p => wk.go i H (hsm i σ H p) hi) (fun σ H p => wk.stop H (hsm _ σ H p)) (fun i x σ H H' hi p y => ?_) hd
  obtain ⟨e, ex⟩ := wk.yld i x H H' (hsm i σ H p) y
  subst e
  exact hs i x σ _ ex p
theorem Sq2.eq {H H' : Hp} {a : Addr} {xs : List V} (h : Sq2 H a xs) (s : Same H H') : H' a = H a := h.elim (fun z => (s _ _ z).trans z.symm) (fun z => (s _ _ z).trans z.symm)
/-! ### data without its dress -/
def Sim (N : Addr → Prop) (H : Hp) : Nat → V → PyData → Prop
  | 0, v, d => Dsc v d
  | n + 1, v, d => Dsc v d ∨ ∃ a xs ds, v = .ref a ∧ N a ∧ Sq2 H a xs ∧ d = .list ds ∧ Paired (Sim N H n) xs ds ∧ ds.length ≤ 1000
theorem Sim.keep {N N' : Addr → Prop} {H H' : Hp} (hn : ∀ a, N a → N' a) (hk : ∀ a o, N a → H a = some o → H' a = some o) : ∀ {n : Nat} {v : V} {d : PyData}, Sim N H n v d → Sim N' H' n v d
  | 0, _, _, h => h
  | n + 1, v, d, h => by
    rcases h with h | ⟨a, xs, ds, e, na, hx, e2, p, l⟩
    · exact .inl h
    · exact .inr ⟨a, xs, ds, e, hn a na, hx.elim (fun z => .inl (hk _ _ na z)) (fun z => .inr (hk _ _ na z)), e2, Paired.imp (fun _ _ z => Sim.keep hn hk z) p, l⟩
theorem Sim.dsc {N : Addr → Prop} {H : Hp} {v : V} {d : PyData} : ∀ {n : Nat}, Dsc v d → Sim N H n v d
  | 0, h => h
  | n + 1, h => .inl h
section
variable {P : Program} {w : World} {K : PySem.W.Frag} {mg : Str → Option Value} {base : Heap}
end
end UP

set_option Elab.async false
set_option linter.all false
set_option maxRecDepth 100000
set_option maxHeartbeats 4000000
namespace UP
open PySem PySem.Spec PyProof.Rows L2
/-! ### waiting items one by one -/
def plS (ws : List Run) (k : Str) (n : Nat) : List Run := match ws with
  | [] => [(k, (n : Int))]
  | r :: t => if r.1 = k then (r :: t) ++ [(k, (n : Int))] else t
def plP (ws : List Run) (k : Str) (n : Nat) : List (Int × Int) := match ws with
  | [] => []
  | r :: _ => if r.1 = k then [] else [(r.2, (n : Int))]
def plA (ws : List Run) (n : Nat) : List Str → List Run
  | [] => ws
  | k :: t => plA (plS ws k n) (n + 1) t
def psR (ws : List Run) (n : Nat) : List Str → List (Int × Int)
  | [] => []
  | k :: t => plP ws k n ++ psR (plS ws k n) (n + 1) t
theorem plA_snoc : ∀ (l : List Str) (ws : List Run) (n : Nat) (k : Str), plA ws n (l ++ [k]) = plS (plA ws n l) k (n + l.length)
  | [], ws, n, k => rfl
  | x :: t, ws, n, k => by
    show plA (plS ws x n) (n + 1) (t ++ [k]) = plS (plA (plS ws x n) (n + 1) t) k (n + (x :: t).length)
    rw [plA_snoc t, List.length_cons, show n + 1 + t.length = n + (t.length + 1) by omega]
theorem psR_snoc : ∀ (l : List Str) (ws : List Run) (n : Nat) (k : Str), psR ws n (l ++ [k]) = psR ws n l ++ plP (plA ws n l) k (n + l.length)
  | [], ws, n, k => by
    show plP ws k n ++ [] = [] ++ plP ws k (n + 0)
    rw [List.append_nil, List.nil_append, Nat.add_zero]
  | x :: t, ws, n, k => by
    show plP ws x n ++ psR (plS ws x n) (n + 1) (t ++ [k]) = (plP ws x n ++ psR (plS ws x n) (n + 1) t) ++ plP (plA (plS ws x n) (n + 1) t) k (n + (x :: t).length)
    rw [psR_snoc t, List.length_cons, List.append_assoc, show n + 1 + t.length = n + (t.length + 1) by omega]
def plMs (ws : List Run) (ks : List Str) : List (List Run) := (List.range (ks.length + 1)).map fun m => plA ws 0 (ks.take m)
theorem plMs_snoc (ws : List Run) (l : List Str) (k : Str) : plMs ws (l ++ [k]) = plMs ws l ++ [plA ws 0 (l ++ [k])] := by
  unfold plMs
  rw [List.length_append, List.length_cons, List.length_nil, Nat.zero_add, List.range_succ, List.map_append]
  congr 1
  · refine List.map_congr_left fun m hm => ?_
    have : m ≤ l.length := by
      have := List.mem_range.mp hm
      omega
    rw [List.take_append_of_le_length this]
  · rw [List.map_singleton, List.take_of_length_le (by rw [List.length_append]; exact Nat.le_refl _)]
theorem plMs_nil (ws : List Run) : plMs ws [] = [ws] := rfl
theorem plMs_len (ws : List Run) (l : List Str) : (plMs ws l).length = l.length + 1 := by
  unfold plMs
  rw [List.length_map, List.length_range]
theorem plS_len (ws : List Run) (k : Str) (n : Nat) : (plS ws k n).length ≤ ws.length + 1 := by
  cases ws with
  | nil => exact Nat.le_refl _
  | cons r t =>
    show (if r.1 = k then (r :: t) ++ [(k, (n : Int))] else t).length ≤ _
    split
    · rw [List.length_append]
      exact Nat.le_refl _
    · rw [List.length_cons]
      omega
theorem plA_len : ∀ (l : List Str) (ws : List Run) (n : Nat), (plA ws n l).length ≤ ws.length + l.length
  | [], ws, n => Nat.le_refl _
  | k :: t, ws, n => by
    have h1 := plA_len t (plS ws k n) (n + 1)
    have h2 := plS_len ws k n
    show (plA (plS ws k n) (n + 1) t).length ≤ _
    rw [List.length_cons]
    omega
theorem plP_len (ws : List Run) (k : Str) (n : Nat) : (plP ws k n).length ≤ 1 := by
  cases ws with
  | nil => exact Nat.zero_le _
  | cons r t =>
    show (if r.1 = k then [] else [(r.2, (n : Int))]).length ≤ 1
    split <;> simp
theorem psR_len : ∀ (l : List Str) (ws : List Run) (n : Nat), (psR ws n l).length ≤ l.length
  | [], ws, n => Nat.le_refl _
  | k :: t, ws, n => by
    have h1 := psR_len t (plS ws k n) (n + 1)
    have h2 := plP_len ws k n
    show (plP ws k n ++ psR (plS ws k n) (n + 1) t).length ≤ _
    rw [List.length_append, List.length_cons]
    omega
theorem plS_kinds {ws : List Run} {k : Str} {n : Nat} (h : ∀ r ∈ ws, KindOk r.1) (hk : KindOk k) : ∀ r ∈ plS ws k n, KindOk r.1 := by
  intro r hr
  cases ws with
  | nil =>
    rw [List.mem_singleton.mp (show r ∈ [(k, (n : Int))] from hr)]
    exact hk
  | cons x t =>
    have hr : r ∈ (if x.1 = k then (x :: t) ++ [(k, (n : Int))] else t) := hr
    by_cases e : x.1 = k
    · rw [if_pos e] at hr
      rcases List.mem_append.mp hr with z | z
      · exact h r z
      · rw [List.mem_singleton.mp z]
        exact hk
    · rw [if_neg e] at hr
      exact h r (List.mem_cons_of_mem _ hr)
theorem plA_kinds : ∀ {l : List Str} {ws : List Run} {n : Nat}, (∀ r ∈ ws, KindOk r.1) → (∀ k ∈ l, KindOk k) → ∀ r ∈ plA ws n l, KindOk r.1
  | [], _, _, h, _ => h
  | k :: t, ws, n, h, hl => plA_kinds (l := t) (plS_kinds h (hl k (List.mem_cons_self ..))) fun x hx => hl x (List.mem_cons_of_mem _ hx)
def w0R : Option Run → List Run
  | none => []
  | some r => List.replicate r.2.toNat (r.1, -1)
def itR (rs : List Run) : List Str := rs.flatMap fun r => List.replicate r.2.toNat r.1
theorem itR_snoc (l : List Run) (r : Run) : itR (l ++ [r]) = itR l ++ List.replicate r.2.toNat r.1 := by
  unfold itR
  rw [List.flatMap_append]
  simp
def PV (H : Hp) (v : V) (p : Int × Int) : Prop := ∃ t, v = .ref t ∧ H t = some (.tup [.int p.1, .int p.2])
theorem PV.same {H H' : Hp} {v : V} {p : Int × Int} (s : Same H H') (h : PV H v p) : PV H' v p := by
  obtain ⟨t, e, h⟩ := h
  exact ⟨t, e, s _ _ h⟩
theorem PV.grow {H : Hp} {D : Addr} {acc acc' : List V} {v : V} {p : Int × Int} (hD : H D = some (.lst acc)) (h : PV H v p) : PV (upd H D (.lst acc')) v p := by
  obtain ⟨t, e, h⟩ := h
  refine ⟨t, e, ?_⟩
  rw [upd_ne (ne_of h hD (by intro q; cases q))]
  exact h
theorem Runs.grow {H : Hp} {D a : Addr} {acc acc' : List V} {ws : List Run} (hD : H D = some (.lst acc)) (n : a ≠ D) (h : Runs H a ws) : Runs (upd H D (.lst acc')) a ws := by
  obtain ⟨xs, hx, hp⟩ := h
  refine ⟨xs, ?_, prs_grow hD hp⟩
  rw [upd_ne n]
  exact hx
/-- a list of runs apart from two others -/
def WL (H : Hp) (M N : Addr) (v : V) (ws : List Run) : Prop := ∃ a, v = .ref a ∧ a ≠ M ∧ a ≠ N ∧ Runs H a ws
theorem WL.same {H H' : Hp} {M N : Addr} {v : V} {ws : List Run} (s : Same H H') (h : WL H M N v ws) : WL H' M N v ws := by
  obtain ⟨a, e, n1, n2, h⟩ := h
  exact ⟨a, e, n1, n2, h.same s⟩
/-- what the play keeps -/
structure Pl (H0 H : Hp) (W M N : Addr) (ws0 : List Run) (ks ls : List Str) : Prop where
  sm : Same H0 H
  wm : W ≠ M
  wn : W ≠ N
  wr : Runs H W (plA ws0 0 ls)
  ms : ∃ xs, H M = some (.lst xs) ∧ Paired (WL H M N) xs (plMs ws0 ks)
  ps : ∃ ys, H N = some (.lst ys) ∧ Paired (PV H) ys (psR ws0 0 ls)
theorem flat_one {α : Type} (x : α) : ∀ n : Nat, (List.replicate n [x]).flatten = List.replicate n x
  | 0 => rfl
  | n + 1 => by
    rw [List.replicate_succ, List.flatten_cons, flat_one x n]
    rfl
theorem paired_rep {α β : Type} {F : α → β → Prop} {a : α} {b : β} (h : F a b) : ∀ n : Nat, Paired F (List.replicate n a) (List.replicate n b)
  | 0 => .nil
  | n + 1 => .cons h (paired_rep h n)
theorem len_items {rs : List Run} (h : ∀ r ∈ rs, 1 ≤ r.2 ∧ r.2 ≤ 1000) : (itR rs).length ≤ 1000 * rs.length := by
  induction rs with
  | nil => exact Nat.le_refl _
  | cons r t ih =>
    have e : itR (r :: t) = List.replicate r.2.toNat r.1 ++ itR t := rfl
    have h1 := h r (List.mem_cons_self ..)
    have h2 := ih fun x hx => h x (List.mem_cons_of_mem _ hx)
    rw [e, List.length_append, List.length_replicate, List.length_cons]
    omega
end UP

set_option Elab.async false
set_option linter.all false
set_option maxRecDepth 100000
set_option maxHeartbeats 4000000
namespace UP
open PySem PySem.Spec PyProof.Rows L2
section
variable {P : Program} {w : World} {K : PySem.W.Frag} {mg : Str → Option Value} {base : Heap}
end
end UP

set_option Elab.async false
set_option linter.all false
set_option maxRecDepth 100000
set_option maxHeartbeats 4000000
namespace UP
open PySem PySem.Spec PyProof.Rows L2
/-! ### one arrival after the other -/
def stI (ks : List Str) (st : Option Run) : Option Run := ks.foldl (fun s k => stepR s k 1) st
theorem stI_app (l m : List Str) (st : Option Run) : stI (l ++ m) st = stI m (stI l st) := List.foldl_append ..
theorem step_same {r : Run} {k : Str} {c : Int} (h : r.1 = k) : stepR (some r) k c = some (k, r.2 + c) := if_pos h
theorem step_other {r : Run} {k : Str} {c : Int} (h : r.1 ≠ k) : stepR (some r) k c = if 0 < r.2 - c then some (r.1, r.2 - c) else if r.2 - c = 0 then none else some (k, -(r.2 - c)) := if_neg h
theorem step_step {s : Option Run} {k : Str} {c : Int} (h : PosO s) (hc : 1 ≤ c) : stepR (stepR s k 1) k c = stepR s k (1 + c) := by
  cases s with
  | none => exact step_same (r := (k, 1)) rfl
  | some r =>
    have r1 := h r rfl
    by_cases e : r.1 = k
    · rw [step_same e, step_same e, step_same (r := (k, r.2 + 1)) rfl]
      show some (k, r.2 + 1 + c) = _
      rw [Int.add_assoc]
    · rw [step_other e, step_other e]
      by_cases h1 : 0 < r.2 - 1
      · rw [if_pos h1, step_other (r := (r.1, r.2 - 1)) e]
        show (if 0 < r.2 - 1 - c then some (r.1, r.2 - 1 - c) else if r.2 - 1 - c = 0 then none else some (k, -(r.2 - 1 - c))) = _
        rw [show r.2 - 1 - c = r.2 - (1 + c) by omega]
      · have e2 : r.2 - 1 = 0 := by omega
        rw [if_neg h1, if_pos e2, if_neg (by omega), if_neg (by omega)]
        show some (k, c) = _
        rw [show -(r.2 - (1 + c)) = c by omega]
theorem it_step : ∀ (n : Nat) (s : Option Run) (k : Str), PosO s → stI (List.replicate (n + 1) k) s = stepR s k ((n : Int) + 1)
  | 0, s, k, _ => rfl
  | n + 1, s, k, h => by
    show stI (List.replicate (n + 1) k) (stepR s k 1) = _
    rw [it_step n _ k (stepR_pos h (by decide)), step_step h (by omega)]
    congr 1
    omega
theorem st_items : ∀ (rs : List Run) (st : Option Run), PosO st → (∀ r ∈ rs, 1 ≤ r.2) → stR rs st = stI (itR rs) st
  | [], st, _, _ => rfl
  | r :: t, st, h, k => by
    have c1 := k r (List.mem_cons_self ..)
    have e : itR (r :: t) = List.replicate r.2.toNat r.1 ++ itR t := rfl
    obtain ⟨n, hn⟩ : ∃ n : Nat, r.2.toNat = n + 1 := ⟨r.2.toNat - 1, by omega⟩
    rw [e, stI_app, hn, it_step n _ _ h, stR_cons, show ((n : Int) + 1) = r.2 by omega]
    exact st_items t _ (stepR_pos h c1) fun x hx => k x (List.mem_cons_of_mem _ hx)
theorem take_app {α : Type} : ∀ (l m : List α) (n : Nat), (l ++ m).take n = l.take n ++ m.take (n - l.length)
  | [], m, n => by
    rw [List.nil_append, List.take_nil, List.nil_append, List.length_nil, Nat.sub_zero]
  | x :: t, m, 0 => by
    rw [List.take_zero, List.take_zero, Nat.zero_sub, List.take_zero]
    rfl
  | x :: t, m, n + 1 => by
    rw [List.cons_append, List.take_succ_cons, take_app t m n, List.take_succ_cons, List.length_cons, Nat.add_sub_add_right]
    rfl
theorem it_app (l m : List Run) : itR (l ++ m) = itR l ++ itR m := List.flatMap_append ..
theorem cut_items (e : Int) : ∀ (rs : List Run) (b : Int), 0 ≤ b → (∀ r ∈ rs, 1 ≤ r.2) → itR (cutR 0 e b rs) = (itR rs).take (e - b).toNat
  | [], b, _, _ => by
    show ([] : List Str) = ([] : List Str).take _
    rw [List.take_nil]
  | r :: t, b, hb, k => by
    have c1 := k r (List.mem_cons_self ..)
    have ih := cut_items e t (b + r.2) (by omega) fun x hx => k x (List.mem_cons_of_mem _ hx)
    have e1 : cutR 0 e b (r :: t) = pieceR b 0 e r ++ cutR 0 e (b + r.2) t := rfl
    have e2 : itR (r :: t) = List.replicate r.2.toNat r.1 ++ itR t := rfl
    rw [e1, it_app, ih, e2, take_app, List.length_replicate, List.take_replicate, show (e - (b + r.2)).toNat = (e - b).toNat - r.2.toNat by omega]
    congr 1
    have es : sizeR b 0 e r.2 = (if b + r.2 < e then b + r.2 else e) - b := by
      unfold sizeR
      by_cases h0 : b > 0
      · rw [if_pos h0]
      · rw [if_neg h0, show b = 0 by omega]
    by_cases hs : 0 < sizeR b 0 e r.2
    · rw [show pieceR b 0 e r = [(r.1, sizeR b 0 e r.2)] from if_pos hs]
      show List.replicate (sizeR b 0 e r.2).toNat r.1 ++ [] = _
      rw [List.append_nil]
      congr 1
      rw [es] at hs ⊢
      split <;> omega
    · rw [show pieceR b 0 e r = [] from if_neg hs]
      rw [es] at hs
      rw [show min (e - b).toNat r.2.toNat = 0 by split at hs <;> omega]
      rfl
theorem len_it : ∀ (rs : List Run), (∀ r ∈ rs, 1 ≤ r.2) → ((itR rs).length : Int) = lenR rs
  | [], _ => rfl
  | r :: t, k => by
    have c1 := k r (List.mem_cons_self ..)
    have ih := len_it t fun x hx => k x (List.mem_cons_of_mem _ hx)
    have e2 : itR (r :: t) = List.replicate r.2.toNat r.1 ++ itR t := rfl
    rw [e2, List.length_append, List.length_replicate, lenR_cons]
    omega
/-! ### what is told of waiting items -/
def Uni (ws : List Run) : Prop := ∀ x ∈ ws, ∀ y ∈ ws, x.1 = y.1
theorem uni_plS {ws : List Run} {k : Str} {n : Nat} (h : Uni ws) : Uni (plS ws k n) := by
  cases ws with
  | nil =>
    intro x hx y hy
    rw [List.mem_singleton.mp (show x ∈ [(k, (n : Int))] from hx), List.mem_singleton.mp (show y ∈ [(k, (n : Int))] from hy)]
  | cons r t =>
    by_cases e : r.1 = k
    · rw [show plS (r :: t) k n = (r :: t) ++ [(k, (n : Int))] from if_pos e]
      have all : ∀ x ∈ (r :: t) ++ [(k, (n : Int))], x.1 = k := by
        intro x hx
        rcases List.mem_append.mp hx with z | z
        · rw [h x z r (List.mem_cons_self ..)]
          exact e
        · rw [List.mem_singleton.mp z]
      intro x hx y hy
      rw [all x hx, all y hy]
    · rw [show plS (r :: t) k n = t from if_neg e]
      exact fun x hx y hy => h x (List.mem_cons_of_mem _ hx) y (List.mem_cons_of_mem _ hy)
theorem told_plS {ws : List Run} {k : Str} {n : Nat} (h : Uni ws) : toldR (plS ws k n) = stepR (toldR ws) k 1 := by
  cases ws with
  | nil => rfl
  | cons r t =>
    by_cases e : r.1 = k
    · rw [show plS (r :: t) k n = (r :: t) ++ [(k, (n : Int))] from if_pos e]
      show some (r.1, (((r :: t) ++ [(k, (n : Int))]).length : Int)) = stepR (some (r.1, ((r :: t).length : Int))) k 1
      rw [step_same (r := (r.1, ((r :: t).length : Int))) e, List.length_append, e]
      show some (k, (((r :: t).length + 1 : Nat) : Int)) = some (k, ((r :: t).length : Int) + 1)
      rw [Int.natCast_add]
      rfl
    · rw [show plS (r :: t) k n = t from if_neg e]
      show toldR t = stepR (some (r.1, ((r :: t).length : Int))) k 1
      rw [step_other (r := (r.1, ((r :: t).length : Int))) e]
      cases t with
      | nil => rfl
      | cons x u =>
        have ex : x.1 = r.1 := h x (List.mem_cons_of_mem _ (List.mem_cons_self ..)) r (List.mem_cons_self ..)
        show some (x.1, ((x :: u).length : Int)) = if 0 < ((r :: x :: u).length : Int) - 1 then some (r.1, ((r :: x :: u).length : Int) - 1) else _
        rw [List.length_cons, List.length_cons, List.length_cons, if_pos (by omega), ex]
        congr 2
        omega
theorem told_plA : ∀ (l : List Str) (ws : List Run) (n : Nat), Uni ws → toldR (plA ws n l) = stI l (toldR ws)
  | [], _, _, _ => rfl
  | k :: t, ws, n, h => by
    show toldR (plA (plS ws k n) (n + 1) t) = stI t (stepR (toldR ws) k 1)
    rw [told_plA t _ _ (uni_plS h), told_plS h]
theorem uni_w0 (st : Option Run) : Uni (w0R st) := by
  cases st with
  | none => intro x hx; cases hx
  | some r =>
    intro x hx y hy
    rw [List.eq_of_mem_replicate hx, List.eq_of_mem_replicate hy]
theorem told_w0 {st : Option Run} (h : PosO st) : toldR (w0R st) = st := by
  cases st with
  | none => rfl
  | some r =>
    have r1 := h r rfl
    obtain ⟨n, hn⟩ : ∃ n : Nat, r.2.toNat = n + 1 := ⟨r.2.toNat - 1, by omega⟩
    show toldR (List.replicate r.2.toNat (r.1, (-1 : Int))) = some r
    rw [hn, List.replicate_succ]
    show some (r.1, (((r.1, (-1 : Int)) :: List.replicate n (r.1, (-1 : Int))).length : Int)) = some r
    rw [List.length_cons, List.length_replicate, show ((n + 1 : Nat) : Int) = r.2 by omega]
/-! ### all counts multiplied -/
def scO (t : Int) (st : Option Run) : Option Run := st.map fun r => (r.1, r.2 * t)
theorem lt_sc {a b t : Int} (ht : 0 < t) : a * t < b * t ↔ a < b :=
  ⟨fun h => by
    by_cases z : a < b
    · exact z
    · have := Int.mul_le_mul_of_nonneg_right (show b ≤ a by omega) (Int.le_of_lt ht)
      omega, fun h => Int.mul_lt_mul_of_pos_right h ht⟩
theorem size_sc {b s e c t : Int} (ht : 0 < t) : sizeR (b * t) (s * t) (e * t) (c * t) = sizeR b s e c * t := by
  unfold sizeR
  rw [← Int.add_mul, Int.sub_mul]
  congr 1
  · by_cases h : b + c < e
    · rw [if_pos h, if_pos ((lt_sc ht).mpr h)]
    · rw [if_neg h, if_neg fun z => h ((lt_sc ht).mp z)]
  · by_cases h : b > s
    · rw [if_pos h, if_pos ((lt_sc ht).mpr h)]
    · rw [if_neg h, if_neg fun z => h ((lt_sc ht).mp z)]
theorem pos_sc {a t : Int} (ht : 0 < t) : 0 < a * t ↔ 0 < a := by
  have := lt_sc (a := 0) (b := a) ht
  rw [Int.zero_mul] at this
  exact this
theorem piece_sc {b s e t : Int} {r : Run} (ht : 0 < t) : pieceR (b * t) (s * t) (e * t) (r.1, r.2 * t) = scR t (pieceR b s e r) := by
  unfold pieceR
  show (if 0 < sizeR (b * t) (s * t) (e * t) (r.2 * t) then [(r.1, sizeR (b * t) (s * t) (e * t) (r.2 * t))] else []) = _
  rw [size_sc ht]
  by_cases h : 0 < sizeR b s e r.2
  · rw [if_pos h, if_pos ((pos_sc ht).mpr h)]
    rfl
  · rw [if_neg h, if_neg fun z => h ((pos_sc ht).mp z)]
    rfl
theorem cut_sc {s e t : Int} (ht : 0 < t) : ∀ (rs : List Run) (b : Int), cutR (s * t) (e * t) (b * t) (scR t rs) = scR t (cutR s e b rs)
  | [], _ => rfl
  | r :: u, b => by
    have ih := cut_sc (s := s) (e := e) ht u (b + r.2)
    show pieceR (b * t) (s * t) (e * t) (r.1, r.2 * t) ++ cutR (s * t) (e * t) (b * t + r.2 * t) (scR t u) = scR t (pieceR b s e r ++ cutR s e (b + r.2) u)
    rw [← Int.add_mul, ih, piece_sc ht]
    unfold scR
    rw [List.map_append]
theorem step_sc {st : Option Run} {k : Str} {c t : Int} (ht : 0 < t) : stepR (scO t st) k (c * t) = scO t (stepR st k c) := by
  cases st with
  | none => rfl
  | some r =>
    show stepR (some (r.1, r.2 * t)) k (c * t) = _
    by_cases e : r.1 = k
    · rw [step_same (r := (r.1, r.2 * t)) e, step_same e]
      show some (k, r.2 * t + c * t) = some (k, (r.2 + c) * t)
      rw [Int.add_mul]
    · rw [step_other (r := (r.1, r.2 * t)) e, step_other e]
      show (if 0 < r.2 * t - c * t then some (r.1, r.2 * t - c * t) else if r.2 * t - c * t = 0 then none else some (k, -(r.2 * t - c * t))) = _
      rw [← Int.sub_mul]
      by_cases h : 0 < r.2 - c
      · rw [if_pos h, if_pos ((pos_sc ht).mpr h)]
        rfl
      · rw [if_neg h, if_neg fun z => h ((pos_sc ht).mp z)]
        by_cases h2 : r.2 - c = 0
        · rw [if_pos h2, h2, Int.zero_mul, if_pos rfl]
          rfl
        · have h3 : (r.2 - c) * t ≠ 0 := Int.mul_ne_zero h2 (by omega)
          rw [if_neg h2, if_neg h3]
          show some (k, -((r.2 - c) * t)) = some (k, -(r.2 - c) * t)
          rw [Int.neg_mul]
theorem st_sc {t : Int} (ht : 0 < t) : ∀ (rs : List Run) (st : Option Run), stR (scR t rs) (scO t st) = scO t (stR rs st)
  | [], _ => rfl
  | r :: u, st => by
    show stR (scR t u) (stepR (scO t st) r.1 (r.2 * t)) = scO t (stR u (stepR st r.1 r.2))
    rw [step_sc ht, st_sc ht u]
theorem len_sc {t : Int} : ∀ (rs : List Run), lenR (scR t rs) = lenR rs * t
  | [] => by
    show (0 : Int) = 0 * t
    rw [Int.zero_mul]
  | r :: u => by
    show lenR ((r.1, r.2 * t) :: scR t u) = _
    rw [lenR_cons, lenR_cons, len_sc u, Int.add_mul]
/-- the multiplied state at a multiplied moment -/
theorem whole_sc {t : Int} {rs : List Run} {st : Option Run} {p : Nat} (ht : 0 < t) (h : PosO st) (k : ∀ r ∈ rs, 1 ≤ r.2) :
    stR (cutR 0 ((p : Int) * t) 0 (scR t rs)) (scO t st) = scO t (toldR (plA (w0R st) 0 ((itR rs).take p))) := by
  have e := cut_sc (s := 0) (e := (p : Int)) ht rs 0
  rw [Int.zero_mul] at e
  rw [e, st_sc ht, told_plA _ _ _ (uni_w0 st), told_w0 h, st_items _ _ h cutR_pos, cut_items _ _ _ (Int.le_refl _) k, Int.sub_zero, Int.toNat_natCast]
end UP

set_option Elab.async false
set_option linter.all false
set_option maxRecDepth 100000
set_option maxHeartbeats 4000000
namespace UP
open PySem PySem.Spec PyProof.Rows L2
theorem room70 {A : Around} {k : Nat} (hr : Room k A) : A.units + 70 < cLine := by
  have := hr.un
  omega
theorem call_list_ofK {X : Cx} {K : PySem.W.Frag} (h : X.K = K) : CallR X (.type "list") (fun xs H Q => ∃ p ys, xs = [.ref p] ∧ (SqL K H p ys ∨ SqT K H p ys) ∧ ∀ l, H l = none → Q (.ref l) (upd H l (.lst ys))) := by
  subst h
  exact call_list_of
/-! ### data that a repr takes -/
structure Nice (w n : Nat) (d : PyData) : Prop where
  can : d.canLay0 = true
  dep : d.depth ≤ n
  sho : d.showable = true
  lea : d.leavesShort 100 = true
  wei : d.weight ≤ w
theorem Nice.mono {w w' n n' : Nat} {d : PyData} (h : Nice w n d) (h1 : w ≤ w') (h2 : n ≤ n') : Nice w' n' d := ⟨h.can, Nat.le_trans h.dep h2, h.sho, h.lea, Nat.le_trans h.wei h1⟩
theorem Nice.fits {w n : Nat} {d : PyData} (h : Nice w n d) (hw : w ≤ 150000) (hn : n ≤ 64) : d.showable = true ∧ SeqAt.shaped d = true ∧ d.shown.length ≤ sizeLine := by
  refine ⟨h.sho, ?_, ?_⟩
  · unfold SeqAt.shaped
    rw [h.can]
    have := h.dep
    exact decide_eq_true (by omega)
  · have h1 := PyData.shown_le 100 (by decide) d h.lea
    have h2 := h.wei
    have h3 : d.shown.length ≤ 16000000 := by omega
    exact Nat.le_trans h3 (by decide)
theorem nice_none : Nice 0 0 .none := ⟨rfl, Nat.le_refl _, rfl, rfl, Nat.le_refl _⟩
theorem nice_str {s : Str} (h : KindOk s) : Nice 8 0 (.str s) := by
  refine ⟨?_, Nat.le_refl _, rfl, ?_, h.2.1⟩
  · rw [PyData.canLay0]
    exact h.str
  · rw [PyData.leavesShort, List.all_eq_true]
    intro c hc
    have := h.2.2 c hc
    exact decide_eq_true (by omega)
theorem nice_int {i : Int} (h : i.natAbs < 10 ^ 60) : Nice 201 0 (.int i) := by
  have h2 : i.natAbs < 2 ^ 200 := Nat.lt_of_lt_of_le h (by decide)
  have h3 : i.natAbs.log2 < 200 := by
    by_cases z : i.natAbs = 0
    · rw [z]
      decide
    · exact (Nat.log2_lt z).mpr h2
  refine ⟨by rw [PyData.canLay0], Nat.le_refl _, ?_, ?_, ?_⟩
  · rw [PyData.showable]
    exact decide_eq_true (by omega)
  · rw [PyData.leavesShort]
    refine decide_eq_true ?_
    have e := int_text_length_le10 (k := 60) (by decide) h
    show (Str.ofString (toString i)).length ≤ 100
    rw [PySem.ofString_length]
    omega
  · rw [PyData.weight]
    split <;> omega
theorem nice_items {w n : Nat} : ∀ {ds : List PyData}, (∀ d ∈ ds, Nice w n d) → PyData.canLayAll0 ds = true ∧ PyData.depthAll ds ≤ n ∧ PyData.showableAll ds = true ∧ PyData.leavesShortAll 100 ds = true ∧ PyData.weightAll ds ≤ (w + 1) * ds.length
  | [], _ => ⟨rfl, Nat.zero_le _, rfl, rfl, Nat.zero_le _⟩
  | d :: t, h => by
    have h1 := h d (List.mem_cons_self ..)
    obtain ⟨a, b, c, e, f⟩ := nice_items (ds := t) fun x hx => h x (List.mem_cons_of_mem _ hx)
    refine ⟨?_, ?_, ?_, ?_, ?_⟩
    · rw [PyData.canLayAll0, h1.can, a]
      rfl
    · rw [PyData.depthAll]
      exact Nat.max_le.mpr ⟨h1.dep, b⟩
    · rw [PyData.showableAll, h1.sho, c]
      rfl
    · rw [PyData.leavesShortAll, h1.lea, e]
      rfl
    · have h2 := h1.wei
      rw [PyData.weightAll, List.length_cons, Nat.mul_succ]
      omega
theorem nice_list {w n : Nat} {ds : List PyData} (h : ∀ d ∈ ds, Nice w n d) : Nice ((w + 1) * ds.length) (n + 1) (.list ds) := by
  obtain ⟨a, b, c, e, f⟩ := nice_items h
  exact ⟨by rw [PyData.canLay0]; exact a, by rw [PyData.depth]; omega, by rw [PyData.showable]; exact c, by rw [PyData.leavesShort]; exact e, by rw [PyData.weight]; exact f⟩
theorem nice_tup {w n : Nat} {ds : List PyData} (h : ∀ d ∈ ds, Nice w n d) : Nice ((w + 1) * ds.length) (n + 1) (.tuple ds) := by
  obtain ⟨a, b, c, e, f⟩ := nice_items h
  exact ⟨by rw [PyData.canLay0]; exact a, by rw [PyData.depth]; omega, by rw [PyData.showable]; exact c, by rw [PyData.leavesShort]; exact e, by rw [PyData.weight]; exact f⟩
/-- v stands for d at H and at every heap that keeps H -/
def DpS (K : PySem.W.Frag) (H : Hp) (v : V) (d : PyData) : Prop := ∀ H', Same H H' → Dp K H' v d
theorem DpS.same {K : PySem.W.Frag} {H H' : Hp} {v : V} {d : PyData} (s : Same H H') (h : DpS K H v d) : DpS K H' v d := fun H2 s2 => h H2 (s.trans s2)
theorem dps_all {K : PySem.W.Frag} {H : Hp} {F : PyData → Prop} : ∀ {xs : List V}, (∀ x ∈ xs, ∃ d, DpS K H x d ∧ F d) → ∃ ds, (∀ H', Same H H' → DpAll K H' xs ds) ∧ ds.length = xs.length ∧ ∀ d ∈ ds, F d
  | [], _ => ⟨[], fun _ _ => .nil, rfl, fun d h => by cases h⟩
  | x :: t, h => by
    obtain ⟨d, h1, h2⟩ := h x (List.mem_cons_self ..)
    obtain ⟨ds, a, b, c⟩ := dps_all (xs := t) fun y hy => h y (List.mem_cons_of_mem _ hy)
    refine ⟨d :: ds, fun H' s => .cons (h1 H' s) (a H' s), congrArg Nat.succ b, fun z hz => ?_⟩
    rcases List.mem_cons.mp hz with e | e
    · rw [e]
      exact h2
    · exact c z e
theorem dps_seq {K : PySem.W.Frag} {H : Hp} {a : Addr} {xs : List V} {w n : Nat} (hx : Sq2 H a xs) (h : ∀ x ∈ xs, ∃ d, DpS K H x d ∧ Nice w n d) : ∃ d, DpS K H (.ref a) d ∧ Nice ((w + 1) * xs.length) (n + 1) d := by
  obtain ⟨ds, h1, h2, h3⟩ := dps_all h
  rcases hx with z | z
  · exact ⟨.list ds, fun H' s => .lst (.of (s _ _ z)) (h1 H' s), by rw [← h2]; exact nice_list h3⟩
  · exact ⟨.tuple ds, fun H' s => .tup (.of (s _ _ z)) (h1 H' s), by rw [← h2]; exact nice_tup h3⟩
theorem dps_run {K : PySem.W.Frag} {H : Hp} {v : V} {r : Run} (h : RunG H v r) (k : KindOk r.1) (c : r.2.natAbs < 10 ^ 60) : ∃ d, DpS K H v d ∧ Nice 404 1 d := by
  obtain ⟨t, rfl, h⟩ := h
  have := dps_seq (K := K) (w := 201) (n := 0) h fun x hx => by
    rcases List.mem_cons.mp hx with e | e
    · rw [e]
      exact ⟨.str r.1, fun _ _ => .str _, (nice_str k).mono (by decide) (Nat.le_refl _)⟩
    · rw [List.mem_singleton.mp e]
      exact ⟨.int r.2, fun _ _ => .int _, nice_int c⟩
  exact this
theorem dps_runs {K : PySem.W.Frag} {H : Hp} {v : V} {rs : List Run} (h : RunsG H v rs) (k : ∀ r ∈ rs, KindOk r.1 ∧ r.2.natAbs < 10 ^ 60) (l : rs.length ≤ 100) : ∃ d, DpS K H v d ∧ Nice 41000 2 d := by
  obtain ⟨a, xs, rfl, hx, hp⟩ := h
  have lx : xs.length = rs.length := Paired.len hp
  obtain ⟨d, h1, h2⟩ := dps_seq (K := K) (w := 404) (n := 1) hx fun x hx => by
    obtain ⟨i, hi, e⟩ := List.mem_iff_getElem.mp hx
    obtain ⟨r, er, hr⟩ := Paired.at hp (List.getElem?_eq_getElem hi)
    rw [e] at hr
    have := k r (List.mem_of_getElem? er)
    exact dps_run hr this.1 this.2
  exact ⟨d, h1, h2.mono (by rw [lx]; omega) (Nat.le_refl _)⟩
theorem dps_st {K : PySem.W.Frag} {H : Hp} {v : V} {st : Option Run} (h : StG H v st) (k : ∀ r, st = some r → KindOk r.1 ∧ r.2.natAbs < 10 ^ 60) : ∃ d, DpS K H v d ∧ Nice 41000 2 d := by
  cases st with
  | none =>
    cases h
    exact ⟨.none, fun _ _ => .non, nice_none.mono (by decide) (by decide)⟩
  | some r =>
    obtain ⟨d, h1, h2⟩ := dps_run (K := K) h (k r rfl).1 (k r rfl).2
    exact ⟨d, h1, h2.mono (by decide) (by decide)⟩
theorem dps_two {K : PySem.W.Frag} {H : Hp} {a : Addr} {x y : V} (h : H a = some (.lst [x, y])) (hx : ∃ d, DpS K H x d ∧ Nice 41000 2 d) (hy : ∃ d, DpS K H y d ∧ Nice 41000 2 d) : ∃ d, DpS K H (.ref a) d ∧ Nice 82002 3 d := by
  have := dps_seq (K := K) (a := a) (xs := [x, y]) (w := 41000) (n := 2) (.inl h) fun z hz => by
    rcases List.mem_cons.mp hz with e | e
    · rw [e]
      exact hx
    · rw [List.mem_singleton.mp e]
      exact hy
  exact this
/-! ### dressed and undressed -/
def dP (r : Run) : PyData := .list [.str r.1, .int r.2]
def dSq (rs : List Run) : PyData := .list (rs.map dP)
def dSt : Option Run → PyData
  | none => .none
  | some r => dP r
theorem sim_pair {N : Addr → Prop} {H : Hp} {n : Nat} (r : Run) : Paired (Sim N H n) [V.str r.1, V.int r.2] [PyData.str r.1, PyData.int r.2] := .cons (Sim.dsc (.inr (.inr (.inr ⟨_, rfl, rfl⟩)))) (.cons (Sim.dsc (.inr (.inr (.inl ⟨_, rfl, rfl⟩)))) .nil)
theorem sim_run {H : Hp} {sp : Addr} {v : V} {r : Run} {n : Nat} (z : Spr H sp) (h : RunV H v r) : Sim (· ≠ sp) H (n + 1) v (dP r) := by
  obtain ⟨t, rfl, h⟩ := h
  obtain ⟨_, _, _, hs, _⟩ := z
  exact .inr ⟨t, _, _, rfl, ne_of h hs (by intro q; cases q), .inr h, rfl, sim_pair r, Nat.le_of_ble_eq_true rfl⟩
theorem sim_seq {H : Hp} {sp a : Addr} {rs : List Run} (z : Spr H sp) (h : Runs H a rs) (l : rs.length ≤ 1000) : Sim (· ≠ sp) H 2 (.ref a) (dSq rs) := by
  have na := Runs.ne z h
  obtain ⟨xs, hx, hp⟩ := h
  refine .inr ⟨a, xs, _, rfl, na, .inl hx, rfl, ?_, by rw [List.length_map]; exact l⟩
  have gen : ∀ {xs : List V} {rs : List Run}, Paired (RunV H) xs rs → Paired (Sim (· ≠ sp) H 1) xs (rs.map dP) := by
    intro xs rs h
    induction h with
    | nil => exact .nil
    | cons h _ ih => exact .cons (sim_run z h) ih
  exact gen hp
theorem sim_st {H : Hp} {sp : Addr} {v : V} {st : Option Run} (z : Spr H sp) (h : StV H v st) : Sim (· ≠ sp) H 2 v (dSt st) := by
  cases st with
  | none =>
    cases h
    exact .inl (.inl ⟨rfl, rfl⟩)
  | some r => exact sim_run z h
theorem sim_one {N : Addr → Prop} {H : Hp} {n : Nat} {v : V} {r : Run} (h : Sim N H (n + 1) v (dP r)) : RunG H v r := by
  rcases h with h | ⟨a, xs, ds, rfl, _, hx, e, p, _⟩
  · exact (dsc_lst h).elim
  · cases e
    have scal : ∀ {m : Nat} {x : V} {s : Str}, Sim N H m x (.str s) → x = .str s := by
      intro m x s h
      have h : Dsc x (.str s) := by
        cases m with
        | zero => exact h
        | succ m =>
          rcases h with h | ⟨_, _, _, _, _, _, e, _⟩
          · exact h
          · cases e
      rcases h with ⟨_, e⟩ | ⟨_, _, e⟩ | ⟨_, _, e⟩ | ⟨y, e1, e⟩ <;> cases e
      exact e1
    have scai : ∀ {m : Nat} {x : V} {s : Int}, Sim N H m x (.int s) → x = .int s := by
      intro m x s h
      have h : Dsc x (.int s) := by
        cases m with
        | zero => exact h
        | succ m =>
          rcases h with h | ⟨_, _, _, _, _, _, e, _⟩
          · exact h
          · cases e
      rcases h with ⟨_, e⟩ | ⟨_, _, e⟩ | ⟨y, e1, e⟩ | ⟨_, _, e⟩ <;> cases e
      exact e1
    cases p with
    | cons h1 p1 =>
      cases p1 with
      | cons h2 p2 =>
        cases p2
        rw [scal h1, scai h2] at hx
        exact ⟨a, rfl, hx⟩
theorem sim_all {N : Addr → Prop} {H : Hp} : ∀ (rs : List Run) (xs : List V), Paired (Sim N H 1) xs (rs.map dP) → Paired (RunG H) xs rs
  | [], xs, h => by
    cases h
    exact .nil
  | r :: t, xs, h => by
    cases h with
    | cons h1 h2 => exact .cons (sim_one h1) (sim_all t _ h2)
theorem sim_runs {N : Addr → Prop} {H : Hp} {v : V} {rs : List Run} (h : Sim N H 2 v (dSq rs)) : RunsG H v rs := by
  rcases h with h | ⟨a, xs, ds, rfl, _, hx, e, p, _⟩
  · exact (dsc_lst h).elim
  · cases e
    refine ⟨a, xs, rfl, hx, ?_⟩
    exact sim_all rs xs p
theorem sim_stg {N : Addr → Prop} {H : Hp} {v : V} {st : Option Run} (h : Sim N H 2 v (dSt st)) : StG H v st := by
  cases st with
  | none =>
    rcases h with h | ⟨_, _, _, _, _, _, e, _⟩
    · rcases h with ⟨e, _⟩ | ⟨_, _, e⟩ | ⟨_, _, e⟩ | ⟨_, _, e⟩
      · exact e
      all_goals cases e
    · cases e
  | some r => exact sim_one h
/-! ### one by one -/
theorem at_moment {rs : List Run} {st : Option Run} {m : Nat} (h : PosO st) (k : ∀ r ∈ rs, 1 ≤ r.2) : stR (cutR 0 (m : Int) 0 rs) st = toldR (plA (w0R st) 0 ((itR rs).take m)) := by
  rw [told_plA _ _ _ (uni_w0 st), told_w0 h, st_items _ _ h cutR_pos, cut_items _ _ _ (Int.le_refl _) k, Int.sub_zero, Int.toNat_natCast]
theorem at_end {rs : List Run} {st : Option Run} (h : PosO st) (k : ∀ r ∈ rs, 1 ≤ r.2) : stR rs st = toldR (plA (w0R st) 0 (itR rs)) := by
  rw [told_plA _ _ _ (uni_w0 st), told_w0 h, st_items _ _ h k]
theorem plMs_get (ws : List Run) (ks : List Str) {n : Nat} (h : n ≤ ks.length) : (plMs ws ks)[n]? = some (plA ws 0 (ks.take n)) := by
  unfold plMs
  rw [List.getElem?_map, List.getElem?_range (by omega)]
  rfl
def dO : Option Run → PyData
  | none => .none
  | some r => dRun r
theorem dt_st {H : Hp} {v : V} {st : Option Run} {n : Nat} (h : StV H v st) : Dt H (n + 1) v (dO st) := by
  cases st with
  | none =>
    cases h
    exact .inl (.inl ⟨rfl, rfl⟩)
  | some r =>
    obtain ⟨t, rfl, h⟩ := h
    refine .inr (.inr ⟨t, _, _, rfl, h, rfl, .cons ?_ (.cons ?_ .nil), Nat.le_of_ble_eq_true rfl⟩)
    · cases n with
      | zero => exact .inr (.inr (.inr ⟨_, rfl, rfl⟩))
      | succ m => exact .inl (.inr (.inr (.inr ⟨_, rfl, rfl⟩)))
    · cases n with
      | zero => exact .inr (.inr (.inl ⟨_, rfl, rfl⟩))
      | succ m => exact .inl (.inr (.inr (.inl ⟨_, rfl, rfl⟩)))
theorem w0_len {st : Option Run} (h : ∀ r, st = some r → r.2 ≤ 1000) : (w0R st).length ≤ 1000 := by
  cases st with
  | none => exact Nat.zero_le _
  | some r =>
    have := h r rfl
    show (List.replicate r.2.toNat (r.1, (-1 : Int))).length ≤ 1000
    rw [List.length_replicate]
    omega
theorem w0_kinds {st : Option Run} (h : StOk st) : ∀ r ∈ w0R st, KindOk r.1 := by
  cases st with
  | none => intro r h; cases h
  | some x =>
    intro r hr
    rw [List.eq_of_mem_replicate hr]
    exact (h x rfl).1
theorem it_kinds {rs : List Run} (h : ∀ r ∈ rs, KindOk r.1) : ∀ k ∈ itR rs, KindOk k := by
  intro k hk
  obtain ⟨r, h1, h2⟩ := List.mem_flatMap.mp hk
  rw [List.eq_of_mem_replicate h2]
  exact h r h1
end UP

set_option Elab.async false
set_option linter.all false
set_option maxRecDepth 100000
set_option maxHeartbeats 4000000
namespace UP
open PySem PySem.Spec PyProof.Rows L2
theorem paired_snoc {α β : Type} {F : α → β → Prop} : ∀ {xs : List α} (l : List β) (y : β), Paired F xs (l ++ [y]) → ∃ xs0 x, xs = xs0 ++ [x] ∧ Paired F xs0 l ∧ F x y
  | _, [], y, h => by
    cases h with
    | cons h1 h2 =>
      cases h2
      exact ⟨[], _, rfl, .nil, h1⟩
  | _, z :: l, y, h => by
    cases h with
    | cons h1 h2 =>
      obtain ⟨xs0, x, e, h3, h4⟩ := paired_snoc l y h2
      exact ⟨_ :: xs0, x, by rw [e]; rfl, .cons h1 h3, h4⟩
theorem set_last {α : Type} : ∀ (l : List α) (x y : α), (l ++ [x]).set l.length y = l ++ [y]
  | [], _, _ => rfl
  | z :: l, x, y => congrArg (z :: ·) (set_last l x y)
theorem ixN_last {n : Nat} : ixN (n + 1) (-1) = some n := by
  unfold ixN
  simp
  omega
/-! ### one more run -/
def addR (rs : List Run) (r : Run) : List Run := match rs.getLast? with
  | none => [r]
  | some l => if l.1 = r.1 then rs.dropLast ++ [(r.1, l.2 + r.2)] else rs ++ [r]
def joinR (rs cs : List Run) : List Run := cs.foldl addR rs
theorem joinR_snoc (rs cs : List Run) (r : Run) : joinR rs (cs ++ [r]) = addR (joinR rs cs) r := by
  unfold joinR
  rw [List.foldl_append]
  rfl
theorem addR_len (rs : List Run) (r : Run) : (addR rs r).length ≤ rs.length + 1 := by
  unfold addR
  split
  · exact Nat.le_add_left _ _
  · split
    · rw [List.length_append, List.length_dropLast]
      simp only [List.length_cons, List.length_nil]
      omega
    · rw [List.length_append]
      exact Nat.le_refl _
theorem joinR_len : ∀ (cs rs : List Run), (joinR rs cs).length ≤ rs.length + cs.length
  | [], _ => Nat.le_refl _
  | c :: t, rs => by
    have h1 := joinR_len t (addR rs c)
    have h2 := addR_len rs c
    show (joinR (addR rs c) t).length ≤ _
    rw [List.length_cons]
    omega
theorem RunV.butL {H H' : Hp} {p : Addr} {xs : List V} {v : V} {r : Run} (hp : H p = some (.lst xs)) (b : But p H H') (h : RunV H v r) : RunV H' v r := by
  obtain ⟨t, e, h⟩ := h
  exact ⟨t, e, b _ _ (ne_of h hp (by intro q; cases q)) h⟩
section
variable {P : Program} {w : World} {K : PySem.W.Frag} {mg : Str → Option Value} {base : Heap}
end
end UP

set_option Elab.async false
set_option linter.all false
set_option maxRecDepth 100000
set_option maxHeartbeats 4000000
namespace UP
open PySem PySem.Spec PyProof.Rows L2
def runR (ks : List Str) : List Run := ks.foldl (fun rs k => addR rs (k, 1)) []
theorem runR_snoc (ks : List Str) (k : Str) : runR (ks ++ [k]) = addR (runR ks) (k, 1) := by
  unfold runR
  rw [List.foldl_append]
  rfl
theorem runR_len (ks : List Str) : (runR ks).length ≤ ks.length := by
  have gen : ∀ (ks : List Str) (rs : List Run), (ks.foldl (fun rs k => addR rs (k, 1)) rs).length ≤ rs.length + ks.length := by
    intro ks
    induction ks with
    | nil => intro rs; exact Nat.le_refl _
    | cons k t ih =>
      intro rs
      have h1 := ih (addR rs (k, 1))
      have h2 := addR_len rs (k, 1)
      show (t.foldl (fun rs k => addR rs (k, 1)) (addR rs (k, 1))).length ≤ _
      rw [List.length_cons]
      omega
  have := gen ks []
  rw [List.length_nil, Nat.zero_add] at this
  exact this
section
variable {P : Program} {w : World} {K : PySem.W.Frag} {mg : Str → Option Value} {base : Heap}
end
end UP

set_option Elab.async false
set_option linter.all false
set_option maxRecDepth 100000
set_option maxHeartbeats 4000000
namespace UP
open PySem PySem.Spec PyProof.Rows L2
theorem Alt.tail {r : Run} {t : List Run} (h : Alt (r :: t)) : Alt t := fun i x y hx hy => h (i + 1) x y hx hy
theorem addR_new {rs : List Run} {r : Run} (h : ∀ l, rs.getLast? = some l → l.1 ≠ r.1) : addR rs r = rs ++ [r] := by
  unfold addR
  cases e : rs.getLast? with
  | none =>
    rw [List.getLast?_eq_none_iff.mp e]
    rfl
  | some l => exact if_neg (h l e)
theorem addR_more (R : List Run) (l r : Run) (h : l.1 = r.1) : addR (R ++ [l]) r = R ++ [(r.1, l.2 + r.2)] := by
  unfold addR
  rw [List.getLast?_concat, List.dropLast_concat]
  exact if_pos h
theorem join_alt : ∀ (cs rs : List Run), Alt cs → (∀ l c, rs.getLast? = some l → cs.head? = some c → l.1 ≠ c.1) → joinR rs cs = rs ++ cs
  | [], rs, _, _ => by
    rw [List.append_nil]
    rfl
  | c :: t, rs, a, h => by
    show joinR (addR rs c) t = rs ++ c :: t
    rw [addR_new fun l hl => h l c hl rfl, join_alt t (rs ++ [c]) a.tail (fun l d hl hd => ?_), List.append_assoc]
    · rfl
    · rw [List.getLast?_concat] at hl
      cases hl
      cases t with
      | nil => cases hd
      | cons e u =>
        cases hd
        exact a 0 _ _ rfl rfl
theorem join_more (R : List Run) (l c : Run) (t : List Run) (a : Alt (c :: t)) (h : l.1 = c.1) : joinR (R ++ [l]) (c :: t) = R ++ [(c.1, l.2 + c.2)] ++ t := by
  show joinR (addR (R ++ [l]) c) t = _
  rw [addR_more R l c h, join_alt t _ a.tail (fun l' d hl hd => ?_)]
  rw [List.getLast?_concat] at hl
  cases hl
  cases t with
  | nil => cases hd
  | cons e u =>
    cases hd
    exact a 0 c _ rfl rfl
/-! ### items and runs -/
theorem run_more : ∀ (n : Nat) (R : List Run) (k : Str) (c : Int), (List.replicate n k).foldl (fun rs k => addR rs (k, 1)) (R ++ [(k, c)]) = R ++ [(k, c + (n : Int))]
  | 0, R, k, c => by
    rw [show c + ((0 : Nat) : Int) = c by omega]
    rfl
  | n + 1, R, k, c => by
    show (List.replicate n k).foldl (fun rs k => addR rs (k, 1)) (addR (R ++ [(k, c)]) (k, 1)) = _
    rw [addR_more R (k, c) (k, 1) rfl, run_more n R k (c + 1), show c + 1 + (n : Int) = c + ((n + 1 : Nat) : Int) by omega]
theorem run_one (n : Nat) (rs : List Run) (k : Str) (h : ∀ l, rs.getLast? = some l → l.1 ≠ k) : (List.replicate (n + 1) k).foldl (fun rs k => addR rs (k, 1)) rs = rs ++ [(k, (n : Int) + 1)] := by
  show (List.replicate n k).foldl (fun rs k => addR rs (k, 1)) (addR rs (k, 1)) = _
  rw [addR_new (r := (k, 1)) h, run_more n rs k 1, show (1 : Int) + (n : Int) = (n : Int) + 1 by omega]
theorem run_items : ∀ (rs R : List Run), Alt rs → (∀ r ∈ rs, 1 ≤ r.2) → (∀ l c, R.getLast? = some l → rs.head? = some c → l.1 ≠ c.1) → (itR rs).foldl (fun rs k => addR rs (k, 1)) R = R ++ rs
  | [], R, _, _, _ => by
    rw [List.append_nil]
    rfl
  | r :: t, R, a, p, h => by
    have c1 := p r (List.mem_cons_self ..)
    obtain ⟨n, hn⟩ : ∃ n : Nat, r.2.toNat = n + 1 := ⟨r.2.toNat - 1, by omega⟩
    have e : itR (r :: t) = List.replicate r.2.toNat r.1 ++ itR t := rfl
    rw [e, List.foldl_append, hn, run_one n R r.1 (fun l hl => h l r hl rfl), show (n : Int) + 1 = r.2 by omega, run_items t (R ++ [(r.1, r.2)]) a.tail (fun x hx => p x (List.mem_cons_of_mem _ hx)) (fun l d hl hd => ?_), List.append_assoc]
    · rfl
    · rw [List.getLast?_concat] at hl
      cases hl
      cases t with
      | nil => cases hd
      | cons e u =>
        cases hd
        exact a 0 _ _ rfl rfl
theorem run_it {rs : List Run} (a : Alt rs) (p : ∀ r ∈ rs, 1 ≤ r.2) : runR (itR rs) = rs := by
  have := run_items rs [] a p (fun l c hl => by cases hl)
  rw [List.nil_append] at this
  exact this
theorem it_one (k : Str) (c : Int) : itR [(k, c)] = List.replicate c.toNat k := by
  show List.replicate c.toNat k ++ [] = _
  rw [List.append_nil]
theorem it_add (rs : List Run) (k : Str) (p : ∀ r ∈ rs, 1 ≤ r.2) : itR (addR rs (k, 1)) = itR rs ++ [k] := by
  rcases List.eq_nil_or_concat rs with e0 | ⟨R0, l, e0⟩
  · subst e0
    rfl
  · rw [List.concat_eq_append] at e0
    subst e0
    have c1 := p l (List.mem_append.mpr (.inr (List.mem_singleton.mpr rfl)))
    by_cases h : l.1 = k
    · rw [addR_more R0 l (k, 1) h, it_app, it_app, List.append_assoc, it_one]
      congr 1
      have e : itR [l] = List.replicate l.2.toNat l.1 := it_one l.1 l.2
      show List.replicate (l.2 + 1).toNat k = itR [l] ++ [k]
      rw [e, h, show (l.2 + 1).toNat = l.2.toNat + 1 by omega, List.replicate_succ']
    · rw [addR_new (fun l' hl => by rw [List.getLast?_concat] at hl; cases hl; exact h), it_app]
      rfl
/-- what holds of the runs of some kinds -/
structure RunsOf (rs : List Run) (ks : List Str) : Prop where
  it : itR rs = ks
  pos : ∀ r ∈ rs, 1 ≤ r.2
  mem : ∀ r ∈ rs, r.1 ∈ ks
  alt : Alt rs
theorem runs_snoc {rs : List Run} {ks : List Str} {k : Str} (h : RunsOf rs ks) : RunsOf (addR rs (k, 1)) (ks ++ [k]) := by
  obtain ⟨i, p, m, a⟩ := h
  refine ⟨by rw [it_add rs k p, i], ?_, ?_, ?_⟩
  all_goals
    rcases List.eq_nil_or_concat rs with e0 | ⟨R0, l, e0⟩
  · subst e0
    intro r hr
    rw [List.mem_singleton.mp (show r ∈ [(k, (1 : Int))] from hr)]
    exact Int.le_refl 1
  · rw [List.concat_eq_append] at e0
    subst e0
    have c1 := p l (List.mem_append.mpr (.inr (List.mem_singleton.mpr rfl)))
    intro r hr
    by_cases h : l.1 = k
    · rw [addR_more R0 l (k, 1) h] at hr
      rcases List.mem_append.mp hr with z | z
      · exact p r (List.mem_append.mpr (.inl z))
      · rw [List.mem_singleton.mp z]
        show 1 ≤ l.2 + 1
        omega
    · rw [addR_new (fun l' hl => by rw [List.getLast?_concat] at hl; cases hl; exact h)] at hr
      rcases List.mem_append.mp hr with z | z
      · exact p r z
      · rw [List.mem_singleton.mp z]
        exact Int.le_refl 1
  · subst e0
    intro r hr
    rw [List.mem_singleton.mp (show r ∈ [(k, (1 : Int))] from hr)]
    exact List.mem_append.mpr (.inr (List.mem_singleton.mpr rfl))
  · rw [List.concat_eq_append] at e0
    subst e0
    intro r hr
    by_cases h : l.1 = k
    · rw [addR_more R0 l (k, 1) h] at hr
      rcases List.mem_append.mp hr with z | z
      · exact List.mem_append.mpr (.inl (m r (List.mem_append.mpr (.inl z))))
      · rw [List.mem_singleton.mp z]
        exact List.mem_append.mpr (.inr (List.mem_singleton.mpr rfl))
    · rw [addR_new (fun l' hl => by rw [List.getLast?_concat] at hl; cases hl; exact h)] at hr
      rcases List.mem_append.mp hr with z | z
      · exact List.mem_append.mpr (.inl (m r z))
      · rw [List.mem_singleton.mp z]
        exact List.mem_append.mpr (.inr (List.mem_singleton.mpr rfl))
  · subst e0
    intro i x y hx hy
    cases hy
  · rw [List.concat_eq_append] at e0
    subst e0
    by_cases h : l.1 = k
    · rw [addR_more R0 l (k, 1) h]
      have e : (R0 ++ [((k, (1 : Int)).1, l.2 + (k, (1 : Int)).2)]).map (·.1) = (R0 ++ [l]).map (·.1) := by
        rw [List.map_append, List.map_append]
        show R0.map (·.1) ++ [k] = R0.map (·.1) ++ [l.1]
        rw [h]
      intro i x y hx hy
      have ex := congrArg (fun z : List Str => z[i]?) e
      have ey := congrArg (fun z : List Str => z[i + 1]?) e
      simp only [List.getElem?_map] at ex ey
      rw [hx] at ex
      rw [hy] at ey
      cases gx : (R0 ++ [l])[i]? with
      | none => rw [gx] at ex; cases ex
      | some x' =>
        cases gy : (R0 ++ [l])[i + 1]? with
        | none => rw [gy] at ey; cases ey
        | some y' =>
          rw [gx] at ex
          rw [gy] at ey
          have ex : x.1 = x'.1 := Option.some.inj ex
          have ey : y.1 = y'.1 := Option.some.inj ey
          rw [ex, ey]
          exact a i x' y' gx gy
    · rw [addR_new (fun l' hl => by rw [List.getLast?_concat] at hl; cases hl; exact h)]
      refine alt_snoc a fun y hy => ?_
      rw [← List.getLast?_eq_getElem?, List.getLast?_concat] at hy
      cases hy
      exact h
theorem runs_of_all : ∀ (ks l : List Str) (R : List Run), RunsOf R l → RunsOf (ks.foldl (fun rs k => addR rs (k, 1)) R) (l ++ ks)
  | [], l, R, h => by
    rw [List.append_nil]
    exact h
  | k :: t, l, R, h => by
    have := runs_of_all t (l ++ [k]) _ (runs_snoc (k := k) h)
    rw [List.append_assoc] at this
    exact this
theorem runs_all (ks : List Str) : RunsOf (runR ks) ks := runs_of_all ks [] [] ⟨rfl, (fun r h => by cases h), (fun r h => by cases h), fun i x y hx => by simp at hx⟩
theorem len_mem {rs : List Run} (p : ∀ r ∈ rs, 1 ≤ r.2) : ∀ r ∈ rs, r.2 ≤ lenR rs := by
  induction rs with
  | nil => intro r h; cases h
  | cons x t ih =>
    intro r hr
    have c1 := p x (List.mem_cons_self ..)
    have ih' := ih fun y hy => p y (List.mem_cons_of_mem _ hy)
    rw [lenR_cons]
    have nn : 0 ≤ lenR t := by
      have := len_it t fun y hy => p y (List.mem_cons_of_mem _ hy)
      omega
    rcases List.mem_cons.mp hr with e | e
    · rw [e]
      omega
    · have := ih' r e
      omega
theorem seq_runs {ks : List Str} (l : ks.length ≤ 400) (ok : ∀ k ∈ ks, KindOk k) : SeqOk (runR ks) ∧ lenR (runR ks) ≤ 400 ∧ itR (runR ks) = ks := by
  obtain ⟨i, p, m, a⟩ := runs_all ks
  have ll := len_it (runR ks) p
  rw [i] at ll
  refine ⟨⟨?_, fun r hr => ⟨ok _ (m r hr), p r hr, ?_⟩, a⟩, by omega, i⟩
  · exact Nat.le_trans (runR_len ks) l
  · have := len_mem p r hr
    omega
end UP

set_option Elab.async false
set_option linter.all false
set_option maxRecDepth 100000
set_option maxHeartbeats 4000000
/-! ### sorted(d.items()), d a dict of texts with ints -/
namespace UPS
open PySem PyProof.Rows SrtO Srt
def lexS (p q : Str × Int) : Bool := if p.1 = q.1 then decide (p.2 < q.2) else decide (p.1.cps.toList < q.1.cps.toList)
theorem lexS_no {p q : Str × Int} : lexS p q = false ↔ (p.1 = q.1 → ¬ p.2 < q.2) ∧ (p.1 ≠ q.1 → ¬ p.1.cps.toList < q.1.cps.toList) := by
  unfold lexS
  by_cases e : p.1 = q.1
  · rw [if_pos e, decide_eq_false_iff_not]
    exact ⟨fun h => ⟨fun _ => h, fun n => absurd e n⟩, fun h => h.1 e⟩
  · rw [if_neg e, decide_eq_false_iff_not]
    exact ⟨fun h => ⟨fun z => absurd z e, fun _ => h⟩, fun h => h.2 e⟩
theorem str_of {x y : Str} (h : x.cps.toList = y.cps.toList) : x = y := by
  cases x with
  | mk a =>
    cases y with
    | mk b =>
      congr 1
      exact Array.ext' h
theorem swoS : Swo lexS := by
  refine ⟨fun x y h => ?_, fun x y z h1 h2 => ?_⟩
  · refine lexS_no.mpr ⟨fun e => ?_, fun n => ?_⟩
    · unfold lexS at h
      rw [if_pos e.symm] at h
      have := of_decide_eq_true h
      omega
    · unfold lexS at h
      rw [if_neg fun z => n z.symm] at h
      exact List.lt_asymm (of_decide_eq_true h)
  · have a := lexS_no.mp h1
    have b := lexS_no.mp h2
    refine lexS_no.mpr ⟨fun e => ?_, fun n => ?_⟩
    · by_cases c : y.1 = x.1
      · have := a.1 c
        have := b.1 (e.trans c.symm)
        omega
      · exfalso
        have p := a.2 c
        have q := b.2 fun w => c (w.symm.trans e)
        rw [e] at q
        exact c (str_of (List.le_antisymm q p))
    · by_cases c : y.1 = x.1
      · rw [← c]
        exact b.2 fun w => n (w.trans c)
      · by_cases d : z.1 = y.1
        · rw [d]
          exact a.2 c
        · exact List.le_trans (a.2 c) (b.2 d)
/-- a tuple of a text and an int -/
def IsSI (h : Heap) (v : Value) (x : Str) (y : Int) : Prop := ∃ a o t u n, v = .ref a ∧ h.get? a = some o ∧ o.cls = .type "tuple" ∧ o.data = .seq #[.str x t, .int y u] n
theorem IsSI.keeps {h h' : Heap} {v : Value} {x : Str} {y : Int} (p : IsSI h v x y) (k : ∀ b o, h.get? b = some o → o.cls = .type "tuple" → h'.get? b = some o) : IsSI h' v x y := by
  obtain ⟨a, o, t, u, n, e, ho, hc, hd⟩ := p
  exact ⟨a, o, t, u, n, e, k _ _ ho hc, hc, hd⟩
theorem firsts_si {h : Heap} : ∀ {vs : List Value}, (∀ v ∈ vs, ∃ x y, IsSI h v x y) → ∃ fs : List Value, PySem.W.KatTups h vs fs ∧ fs.length = vs.length ∧ ∀ f ∈ fs, ∃ x t, f = Value.str x t
  | [], _ => ⟨[], PySem.W.KatTups.nil, rfl, fun f hf => by simp at hf⟩
  | v :: vs, x => by
    obtain ⟨fs, k, hl, hi⟩ := firsts_si (vs := vs) fun u hu => x u (List.mem_cons_of_mem _ hu)
    obtain ⟨y, z, a, o, t, u, n, rfl, ho, hc, hd⟩ := x v (List.mem_cons_self ..)
    refine ⟨.str y t :: fs, PySem.W.KatTups.cons ho hc hd rfl k, congrArg Nat.succ hl, fun f hf => ?_⟩
    rcases List.mem_cons.mp hf with e | e
    · exact ⟨y, t, e⟩
    · exact hi f e
section
variable {prog : Program} {w : World} {A : Around} {s : Shared} {E : Value → Shared → Prop}
theorem si_cmp {vs : List Value} {k : Value → Str × Int} (hp : ∀ v ∈ vs, IsSI s.heap v (k v).1 (k v).2) : Cmp prog w A s (tuples' true) (fun p => p.1 ∈ vs) (lt2 fun v u => lexS (k v) (k u)) := by
  intro p q hm hm'
  have h1 := hp _ hm
  have h2 := hp _ hm'
  show wpAny (model prog w) A (keyLt' (tuples' true) p.1 q.1) (fun r s' => s' = s ∧ r = lexS (k p.1) (k q.1)) (fun _ _ => False) s
  unfold lexS
  generalize (k p.1).1 = x at h1 ⊢
  generalize (k p.1).2 = y at h1 ⊢
  generalize (k q.1).1 = x' at h2 ⊢
  generalize (k q.1).2 = y' at h2 ⊢
  obtain ⟨a, o, t, u, n, e, ho, hc, hd⟩ := h1
  obtain ⟨a', o', t', u', n', e', ho', hc', hd'⟩ := h2
  rw [e, e']
  refine PySem.W.kat_lt ho hd ho' hd' ?_
  show PySem.W.KatLex prog w A true (decide (2 < 2)) _ [(.str x t, .str x' t'), (.int y u, .int y' u')] 0 s
  refine PySem.W.kat_cons (SeqAt.EqAt.str_str x t x' t' prog w _ _ ?_)
  refine PySem.W.kat_go (fun e1 => ?_) (fun e1 => ?_)
  · have ex : x = x' := by simpa using e1
    refine PySem.W.kat_yes (PySem.W.kat_cons (SeqAt.EqAt.int_int y u y' u' prog w _ _ ?_))
    refine PySem.W.kat_go (fun e2 => ?_) (fun e2 => ?_)
    · have ey : y = y' := by simpa using e2
      have e3 : (if x = x' then decide (y < y') else decide (x.cps.toList < x'.cps.toList)) = false := by
        rw [if_pos ex, ey]
        exact decide_eq_false (Int.lt_irrefl _)
      exact PySem.W.kat_yes (PySem.W.kat_nil ⟨rfl, e3.symm⟩)
    · have e3 : (if x = x' then decide (y < y') else decide (x.cps.toList < x'.cps.toList)) = decide (y < y') := if_pos ex
      refine PySem.W.kat_no (PySem.W.kat_one _ _ (PyProof.Rows.lt_int ?_))
      exact (show s = s ∧ decide (y < y') = (if x = x' then decide (y < y') else decide (x.cps.toList < x'.cps.toList)) from ⟨rfl, e3.symm⟩)
  · have ex : ¬ x = x' := by simpa using e1
    have e3 : (if x = x' then decide (y < y') else decide (x.cps.toList < x'.cps.toList)) = decide (x.cps.toList < x'.cps.toList) := if_neg ex
    exact PySem.W.kat_no (PyProof.Rows.oneLt_str ⟨rfl, e3.symm⟩)
theorem si_sortable {a : Addr} {vs : List Value} {k : Value → Str × Int} (h0 : 0 < vs.length) (hp : ∀ v ∈ vs, IsSI s.heap v (k v).1 (k v).2) (ha : ∀ o, s.heap.get? a = some o → o.cls ≠ .type "tuple") : SortableO prog w A s a vs fun v u => lexS (k v) (k u) := by
  intro h' keep
  have hp' : ∀ v ∈ vs, IsSI h' v (k v).1 (k v).2 := fun v hm => (hp v hm).keeps fun b o e c => keep b o (fun z => by subst z; exact ha o e c) e
  obtain ⟨fs, h1, h2, h3⟩ := firsts_si fun v hm => ⟨_, _, hp' v hm⟩
  refine ⟨tuples' true, fun Q E hq => ?_, si_cmp hp'⟩
  refine PySem.W.kat_kind (T := .type "str") h1 (by omega) (fun f hm => ?_) (by rfl) ?_
  · obtain ⟨x, t, rfl⟩ := h3 f hm
    exact PySem.W.Looks.now
  · have e : (Value.type "str" != Value.type "tuple") = true := by first | decide +kernel | rfl | decide
    rw [e]
    exact hq
end
end UPS
namespace UP
open PySem PySem.Spec PyProof.Rows L2 L2.DX
abbrev entK (e : Str × Int) : L2.Key × V := (Sum.inr e.1, V.int e.2)
def rItemsK : V → List V → Hp → VK → Prop := fun x xs H Q => ∃ (a : Addr) (kvs : List (L2.Key × V)), x = .ref a ∧ xs = [] ∧ H a = some (.dK kvs) ∧ ∀ p, H p = none → Q (.ref p) (upd H p (itemsO p a))
def rSortKI : List V → Hp → VK → Prop := fun vs H Q => ∃ (p a : Addr) (ks : List Run), vs = [.ref p] ∧ H p = some (itemsO p a) ∧ H a = some (.dK (ks.map entK)) ∧
  ∀ H' l out, Same H H' → H l = none → Runs H' l out → out.Perm ks → out.Pairwise (fun x y => UPS.lexS y x = false) → Q (.ref l) H'
section
variable {X : Cx}
theorem mt_itemsK : MtR X "dict.items" rItemsK := by
  intro pins s σ H x xs v us Q I rx rxs h
  obtain ⟨a, kvs, rfl, rfl, ha, q⟩ := h
  cases rx
  cases rxs
  obtain ⟨z, hd, vs, rel, dd⟩ := dk_of I.hok ha
  obtain ⟨es, ep, hr, _⟩ := dd.raw
  refine DT.callItems (es := es) (ep := ep) hd hr ?_
  have hf : H s.heap.objs.size = none := I.hok.fresh (Nat.le_refl _)
  exact ⟨.ref s.heap.objs.size, upd H s.heap.objs.size (itemsO s.heap.objs.size a), I.laid (t' := s.toks) (fun b u e => Heap.get?_push_of_some _ e) (Nat.le_refl _) (itemsO_ok (Heap.get?_push_size _ rfl)), rfl, q _ hf⟩
theorem kV_str {k : Str} {P : Program} {w : World} {u : Value} (h : (mixKind P w).is (Sum.inr k) u = true) : ∃ t, u = .str k t := Value.isStrOf_shape h
theorem paired_of {α β : Type} {F : α → β → Prop} : ∀ (l : List α) (f : α → β), (∀ a ∈ l, F a (f a)) → Paired F l (l.map f)
  | [], _, _ => .nil
  | a :: t, f, h => .cons (h a (List.mem_cons_self ..)) (paired_of t f fun b hb => h b (List.mem_cons_of_mem _ hb))
theorem paired_map {α α' β β' : Type} {F : α' → β' → Prop} (f : α → α') (g : β → β') : ∀ {l : List α} {m : List β}, Paired (fun a b => F (f a) (g b)) l m → Paired F (l.map f) (m.map g)
  | _, _, .nil => .nil
  | _, _, .cons h t => .cons h (paired_map f g t)
theorem cr_sortedKI (hc : X.calm = true) : CallR X (.builtin "sorted") rSortKI := by
  intro pins s σ H xs us Q I r h
  obtain ⟨p, a, ks, rfl, hp, ha, q⟩ := h
  obtain rfl := Vals.ref1 r
  have view : s.heap.IsItemsView p a := (show ObjOk X.prog X.w H s.heap p (itemsO p a) from I.hok p _ hp).1
  obtain ⟨z, hd, vs, rel, dd⟩ := dk_of I.hok ha
  obtain ⟨es, ep, hr, hsz, hget⟩ := dd.raw
  have l1 : (ks.map entK).length = vs.length := rel.length
  rw [List.length_map] at l1 z
  have hh : X.A.handled = none := I.ok.hd hc
  refine DT.sortedI (es := es) (ep := ep) hh view hr (by omega) fun h' tk as hk hlt hl hG => ?_
  have lak : as.length = ks.length := by omega
  have nd : as.Nodup := List.Pairwise.imp (fun h => Nat.ne_of_lt h) hG.rise
  -- the pairs that were made
  have pr : ∀ (j : Nat) (b : Addr), as[j]? = some b → ∃ (e : Run) (t u : Tok), ks[j]? = some e ∧ h'.get? b = some { cls := .type "tuple", data := .seq #[Value.str e.1 t, Value.int e.2 u] } := by
    intro j b hj
    obtain ⟨en, he, hg⟩ := hG.pairs j b hj
    have hjs : j < es.size := (Array.getElem?_eq_some_iff.mp he).1
    have hjk : j < ks.length := by omega
    have een : es[j] = en := (Array.getElem?_eq_some_iff.mp he).2
    have hjv : j < vs.length := by omega
    obtain ⟨y, ey, r1, r2⟩ := pget rel (List.getElem?_eq_getElem hjv)
    rw [List.getElem?_map, List.getElem?_eq_getElem hjk] at ey
    have ey : entK ks[j] = y := Option.some.inj ey
    have hv : vs[j]? = some ((Sum.inr (ks[j]).1 : L2.Key), (vs[j]).2) := by
      rw [List.getElem?_eq_getElem hjv]
      congr 1
      refine Prod.ext ?_ rfl
      rw [← r1, ← ey]
    obtain ⟨g1, g2⟩ := hget j hjs _ _ hv
    obtain ⟨t, et⟩ := kV_str g1
    rw [← ey] at r2
    obtain ⟨u, eu⟩ := (show ∃ u, (vs[j]).2 = Value.int (ks[j]).2 u from r2)
    refine ⟨ks[j], t, u, List.getElem?_eq_getElem hjk, ?_⟩
    rw [hg, ← een, et, g2, eu]
  have hob : (h'.push { cls := .type "list", data := .seq (as.map Value.ref).toArray }).get? h'.objs.size = some (seqObj "list" (as.map Value.ref).toArray 0) := Heap.get?_push_size _ rfl
  have kb : ∀ b o, s.heap.get? b = some o → (h'.push { cls := .type "list", data := .seq (as.map Value.ref).toArray }).get? b = some o := fun b o e => Heap.get?_push_of_some _ (hk b o e)
  have ne0 : ∀ b o, h'.get? b = some o → b ≠ h'.objs.size := fun b o e => Nat.ne_of_lt (Heap.lt_size e)
  generalize hh2 : h'.push { cls := .type "list", data := .seq (as.map Value.ref).toArray } = h2 at hob kb ⊢
  have ka : ∀ b o, h'.get? b = some o → h2.get? b = some o := fun b o e => by rw [← hh2]; exact Heap.get?_push_of_some _ e
  -- what stands for what
  obtain ⟨kf, hkf⟩ : ∃ kf : Value → Str × Int, ∀ (j : Nat) (b : Addr), as[j]? = some b → ks[j]? = some (kf (.ref b)) := by
    refine ⟨fun v => match v with | .ref b => (ks[as.idxOf b]?).getD ("", 0) | _ => ("", 0), fun j b hj => ?_⟩
    obtain ⟨hjl, ej⟩ := List.getElem?_eq_some_iff.mp hj
    have ei : as.idxOf b = j := by
      rw [← ej]
      exact List.Nodup.idxOf_getElem nd j hjl
    show ks[j]? = some ((ks[as.idxOf b]?).getD ("", 0))
    rw [ei, List.getElem?_eq_getElem (by omega)]
    rfl
  have pin : ∀ v ∈ as.map Value.ref, UPS.IsSI h2 v (kf v).1 (kf v).2 := by
    intro v hv'
    obtain ⟨b, hb, rfl⟩ := List.mem_map.mp hv'
    obtain ⟨j, hj⟩ := List.mem_iff_getElem?.mp hb
    obtain ⟨e, t, u, he, hg⟩ := pr j b hj
    have ek := hkf j b hj
    rw [he] at ek
    have ek := Option.some.inj ek
    rw [← ek]
    exact ⟨b, _, t, u, 0, rfl, ka _ _ hg, rfl, rfl⟩
  refine wpAny_call_entry PyProof.Rows.slot_list_sort ⟨_, hob, rfl⟩ PyProof.Rows.entry_list_sort
    (SrtO.list_sort_ord (s := { s with heap := h2, toks := tk }) (ltv := fun v u => UPS.lexS (kf v) (kf u)) ⟨fun x y => UPS.swoS.asym _ _, fun x y z => UPS.swoS.tr _ _ _⟩ hob (by rw [List.length_map]; omega) (fun h2' => ?_) fun out hs hb => ⟨_, rfl, ?_⟩) (PyProof.Rows.args_list_sort _)
  · refine UPS.si_sortable (s := { s with heap := h2, toks := tk }) (by omega) pin fun o e => ?_
    have e' : some o = some (seqObj "list" (as.map Value.ref).toArray 0) := e.symm.trans hob
    cases e'
    intro c
    exact absurd (Value.type.inj c) (by decide)
  · show EP X pins σ Q (.ref h'.objs.size) { s with heap := sortedHeap h2 h'.objs.size (as.map Value.ref) out.toArray, toks := tk }
    obtain ⟨zs, pz, ez⟩ : ∃ zs : List Addr, zs.Perm as ∧ zs.map Value.ref = out := by
      have := hb.perm
      obtain ⟨zs, p1, p2⟩ := perm_lift Value.ref this as rfl
      exact ⟨zs, p1, p2⟩
    have kF : ∀ b o, b ≠ h'.objs.size → h2.get? b = some o → (sortedHeap h2 h'.objs.size (as.map Value.ref) out.toArray).get? b = some o := fun b o hb e => (PyProof.Rows.sortedHeap_old hb (Heap.lt_size e)).trans e
    have kS : ∀ b o, s.heap.get? b = some o → (sortedHeap h2 h'.objs.size (as.map Value.ref) out.toArray).get? b = some o := fun b o e => kF b o (ne0 _ _ (hk b o e)) (kb b o e)
    obtain ⟨eF, heF⟩ := PyProof.Rows.sortedHeap_at (vs := as.map Value.ref) (out := out.toArray) hob
    have I1 : Inv X pins σ H { s with heap := sortedHeap h2 h'.objs.size (as.map Value.ref) out.toArray, toks := tk } := I.kept (t' := tk) kS
    have hn0 : H h'.objs.size = none := I.hok.fresh (Nat.le_of_lt hlt)
    have lz : zs.length = ks.length := by rw [pz.length_eq, lak]
    have I2 : Inv X pins σ (upd H h'.objs.size (.lst (zs.map V.ref))) { s with heap := sortedHeap h2 h'.objs.size (as.map Value.ref) out.toArray, toks := tk } :=
      I1.take (h' := sortedHeap h2 h'.objs.size (as.map Value.ref) out.toArray) (t' := tk) (fun b ob _ e => e) (I.fpOk (Nat.le_of_lt hlt) hn0) ⟨by rw [List.length_map, lz]; exact z, out, eF, by rw [← ez]; exact vals_maps (fun z : Addr => V.ref z) (fun z => Value.ref z) zs fun _ _ => rfl, heF⟩
    obtain ⟨H2, I3, g, qt⟩ := takeT (P := fun b vs => vs = [.str (kf (.ref b)).1, .int (kf (.ref b)).2]) I as _ I2 nd fun b hb => by
      obtain ⟨j, hj⟩ := List.mem_iff_getElem?.mp hb
      obtain ⟨e, t, u, he, hg⟩ := pr j b hj
      have ek := hkf j b hj
      rw [he] at ek
      have ek := Option.some.inj ek
      have hbl : s.heap.objs.size ≤ b := Nat.le_of_lt (hG.above b hb)
      refine ⟨hbl, ?_, [.str e.1, .int e.2], by rw [← ek], fun H3 => ⟨(by rw [sizeLine_eq]; show 2 ≤ 16777216; omega), [Value.str e.1 t, Value.int e.2 u], .cons ⟨t, rfl⟩ (.cons ⟨u, rfl⟩ .nil), ⟨_, kF _ _ (ne0 _ _ hg) (ka _ _ hg), rfl, 0, rfl⟩⟩⟩
      rw [upd_ne (ne0 _ _ hg)]
      exact I.hok.fresh hbl
    have gr : Same H H2 := fun b o e => g b o (by rw [upd_ne (ne_of_none e hn0)]; exact e)
    refine ⟨.ref h'.objs.size, H2, I3, rfl, q H2 h'.objs.size (zs.map fun b => kf (.ref b)) gr hn0 ⟨zs.map V.ref, g _ _ upd_same, ?_⟩ ?_ ?_⟩
    · refine paired_map V.ref (fun b => kf (.ref b)) ?_
      have := paired_of (F := fun (b : Addr) (c : Addr) => RunV H2 (V.ref b) (kf (.ref c))) zs id fun b hb => by
        obtain ⟨vs', e1, e2⟩ := qt b (pz.mem_iff.mp hb)
        rw [e1] at e2
        exact ⟨b, rfl, e2⟩
      rw [List.map_id] at this
      exact this
    · have e1 : (as.map fun b => kf (.ref b)) = ks := by
        refine List.ext_getElem? fun j => ?_
        rw [List.getElem?_map]
        cases hj : as[j]? with
        | none =>
          have : as.length ≤ j := List.getElem?_eq_none_iff.mp hj
          rw [List.getElem?_eq_none_iff.mpr (by omega)]
          rfl
        | some b =>
          rw [hkf j b hj]
          rfl
      rw [← e1]
      exact pz.map _
    · have hs : out.Pairwise (fun v u => UPS.lexS (kf u) (kf v) = false) := hs
      rw [← ez, List.pairwise_map] at hs
      rw [List.pairwise_map]
      exact hs
/-! ### sorted(list of runs) -/
def kyR (H : Hp) : V → Run
  | .ref t => match H t with
    | some (.tup [.str a, .int b]) => (a, b)
    | _ => ("", 0)
  | _ => ("", 0)
theorem kyR_of {H : Hp} {v : V} {r : Run} (h : RunV H v r) : kyR H v = r := by
  obtain ⟨t, rfl, ht⟩ := h
  show (match H t with | some (.tup [.str a, .int b]) => (a, b) | _ => (("" : Str), (0 : Int))) = r
  rw [ht]
def rSortR : List V → Hp → VK → Prop := fun vs H Q => ∃ (a : Addr) (ks : List Run), vs = [.ref a] ∧ Runs H a ks ∧
  ∀ H' l out, Same H H' → H l = none → Runs H' l out → out.Perm ks → out.Pairwise (fun x y => UPS.lexS y x = false) → Q (.ref l) H'
theorem kyR_map {H : Hp} : ∀ {xs : List V} {ks : List Run}, Paired (RunV H) xs ks → xs.map (kyR H) = ks
  | _, _, .nil => rfl
  | _, _, .cons h t => by rw [List.map_cons, kyR_of h, kyR_map t]
theorem paired_ky {H : Hp} : ∀ (xs : List V), (∀ x ∈ xs, ∃ r, RunV H x r) → Paired (RunV H) xs (xs.map (kyR H))
  | [], _ => .nil
  | x :: t, h => by
    obtain ⟨r, hr⟩ := h x (List.mem_cons_self ..)
    refine .cons ?_ (paired_ky t fun y hy => h y (List.mem_cons_of_mem _ hy))
    rw [kyR_of hr]
    exact hr
theorem paired_mem {α β : Type} {F : α → β → Prop} : ∀ {xs : List α} {ys : List β}, Paired F xs ys → ∀ x ∈ xs, ∃ y, F x y
  | _, _, .cons h t, x, hx => by
    rcases List.mem_cons.mp hx with e | hx
    · rw [e]
      exact ⟨_, h⟩
    · exact paired_mem t x hx
theorem cr_sortedR : CallR X (.builtin "sorted") rSortR := by
  intro pins s σ H vs us Q I r h
  obtain ⟨a, ks, rfl, ⟨xs, hx, hp⟩, q⟩ := h
  obtain ⟨its, rv, hl, hz⟩ := I.list (SqL.of hx)
  obtain rfl := Vals.ref1 r
  obtain ⟨e1, e2⟩ := refs_back rv fun x m => by
    obtain ⟨y, t, e, _⟩ := paired_mem hp x m
    exact ⟨t, e⟩
  refine SrtO.sorted_ord (ltv := fun v u => UPS.lexS (kyR H (backV v)) (kyR H (backV u))) ⟨fun x y => UPS.swoS.asym _ _, fun x y z => UPS.swoS.tr _ _ _⟩ hl.isList (by rw [← rv.length]; exact hz) (fun h2 h₁ a' ha kk => ?_) fun out hs hb => ?_
  · refine UPS.si_sortable (s := { s with heap := h₁ }) (k := fun u => kyR H (backV u)) (by omega) (fun v hv => ?_) fun o e => ?_
    · obtain ⟨t, rfl⟩ := e2 v hv
      have hm : V.ref t ∈ xs := by rw [e1]; exact List.mem_map.mpr ⟨_, hv, rfl⟩
      obtain ⟨y, hy⟩ := paired_mem hp _ hm
      rw [show kyR H (backV (.ref t)) = y from kyR_of hy]
      obtain ⟨t', e, ht⟩ := hy
      cases e
      obtain ⟨_, its2, r2, o, ho, hc, n, hd⟩ := I.hok _ _ ht
      obtain ⟨u1, u2, rfl, ri, rj⟩ := vals2 r2
      obtain ⟨t1, rfl⟩ := ri
      obtain ⟨t2, rfl⟩ := rj
      exact ⟨t, o, t1, t2, n, rfl, (kk _ _ ho).2, hc, hd⟩
    · have e' : some o = some (seqObj "list" its.toArray 0) := e.symm.trans ha
      cases e'
      intro c
      exact absurd (Value.type.inj c) (by decide)
  · have h3 : ∀ u ∈ out, ∃ a, u = Value.ref a := fun u hu => e2 u (hb.perm.mem_iff.mp hu)
    obtain ⟨n, hn⟩ := sortedAll_at s.heap its out.toArray
    have pm : (out.map backV).Perm xs := by
      rw [e1]
      exact hb.perm.map backV
    have hd : s.heap.objs.size ≤ s.heap.objs.size + 1 := Nat.le_succ _
    have hn0 := I.hok.fresh hd
    refine ⟨.ref _, upd H (s.heap.objs.size + 1) (.lst (out.map backV)), I.laid (t' := s.toks) (fun b o e => sortedAll_old e) hd ⟨?_, out, n, vals_back h3, hn⟩, rfl, q _ _ ((out.map backV).map (kyR H)) (same_upd hn0) hn0 ⟨_, upd_same, ?_⟩ ?_ ?_⟩
    · rw [pm.length_eq]
      exact hz
    · exact Paired.imp (fun _ _ => RunV.same (same_upd hn0)) (paired_ky _ fun x hx => paired_mem hp x (pm.mem_iff.mp hx))
    · rw [← kyR_map hp]
      exact pm.map _
    · rw [List.pairwise_map, List.pairwise_map]
      exact hs
end
end UP

set_option Elab.async false
set_option linter.all false
set_option maxRecDepth 100000
set_option maxHeartbeats 4000000
namespace UP
open PySem PySem.Spec PyProof.Rows L2 L2.DX
/-! ### kinds counted -/
structure CT (ks : List Run) (its : List Str) : Prop where
  nd : (ks.map (·.1)).Nodup
  val : ∀ e ∈ ks, e.2 = ((its.count e.1 : Nat) : Int)
  cov : ∀ k, k ∈ its ↔ k ∈ ks.map (·.1)
  sum : (ks.map (·.2)).sum = (its.length : Int)
theorem CT.nil : CT [] [] := ⟨List.nodup_nil, (fun e h => by cases h), (fun k => Iff.rfl), rfl⟩
theorem sum_perm {l m : List Run} (h : l.Perm m) : (l.map (·.2)).sum = (m.map (·.2)).sum := by
  induction h with
  | nil => rfl
  | cons x _ ih => rw [List.map_cons, List.map_cons, List.sum_cons, List.sum_cons, ih]
  | swap x y l =>
    simp only [List.map_cons, List.sum_cons]
    omega
  | trans _ _ h1 h2 => exact h1.trans h2
theorem CT.perm {l m : List Run} {its : List Str} (h : l.Perm m) (c : CT m its) : CT l its :=
  ⟨(h.map _).symm.nodup c.nd, fun e he => c.val e (h.mem_iff.mp he), fun k => (c.cov k).trans (h.map _).mem_iff.symm, (sum_perm h).trans c.sum⟩
theorem val_ent {ks : List Run} {k : Str} : valV (ks.map entK) (Sum.inr k) = (ks.find? fun e => decide (e.1 = k)).map fun e => V.int e.2 := by
  induction ks with
  | nil => rfl
  | cons e t ih =>
    rw [List.map_cons]
    by_cases c : e.1 = k
    · have e1 : List.find? (fun e : Run => decide (e.1 = k)) (e :: t) = some e := by
        rw [List.find?_cons, show (decide (e.1 = k)) = true from decide_eq_true c]
      rw [valV_pos (p := entK e) (by show (Sum.inr e.1 : L2.Key) = _; rw [c]), e1]
      rfl
    · have e1 : List.find? (fun e : Run => decide (e.1 = k)) (e :: t) = List.find? (fun e : Run => decide (e.1 = k)) t := by
        rw [List.find?_cons, show (decide (e.1 = k)) = false from decide_eq_false c]
      rw [valV_neg (p := entK e) (fun z => c (Sum.inr.inj z)), e1]
      exact ih
/-- what a dict of counts says of a kind -/
theorem CT.get {ks : List Run} {its : List Str} (c : CT ks its) (k : Str) : (valV (ks.map entK) (Sum.inr k)).getD (.int 0) = .int ((its.count k : Nat) : Int) := by
  rw [val_ent]
  cases h : ks.find? fun e => decide (e.1 = k) with
  | none =>
    have no : k ∉ its := fun hk => by
      obtain ⟨e, he, ek⟩ := List.mem_map.mp ((c.cov k).mp hk)
      have := List.find?_eq_none.mp h e he
      exact this (decide_eq_true ek)
    rw [List.count_eq_zero_of_not_mem no]
    rfl
  | some e =>
    have e0 := List.find?_some (p := fun e : Run => decide (e.1 = k)) h
    have e1 : e.1 = k := of_decide_eq_true e0
    have e2 := c.val e (List.mem_of_find?_eq_some h)
    rw [e1] at e2
    show V.int e.2 = _
    rw [e2]
theorem key_map {ks : List Run} {k : Str} {n : Int} : (ks.map entK).map (fun kv => if kv.1 = (Sum.inr k : L2.Key) then (kv.1, V.int n) else kv) = (ks.map fun e => if e.1 = k then (e.1, n) else e).map entK := by
  rw [List.map_map, List.map_map]
  refine List.map_congr_left fun e _ => ?_
  show (if (Sum.inr e.1 : L2.Key) = Sum.inr k then _ else _) = entK (if e.1 = k then (e.1, n) else e)
  by_cases c : e.1 = k
  · rw [if_pos (by rw [c]), if_pos c]
  · rw [if_neg (fun z => c (Sum.inr.inj z)), if_neg c]
theorem sum_set {ks : List Run} {k : Str} {n : Int} {e0 : Run} (nd : (ks.map (·.1)).Nodup) (h : e0 ∈ ks) (e : e0.1 = k) : ((ks.map fun e => if e.1 = k then (e.1, n) else e).map (·.2)).sum = (ks.map (·.2)).sum - e0.2 + n := by
  induction ks with
  | nil => cases h
  | cons x t ih =>
    have nd := List.nodup_cons.mp (show (x.1 :: t.map (·.1)).Nodup from nd)
    simp only [List.map_cons, List.sum_cons]
    by_cases c : x.1 = k
    · have ex : x = e0 := by
        rcases List.mem_cons.mp h with z | z
        · exact z.symm
        · exact absurd (List.mem_map.mpr ⟨e0, z, by rw [e, c]⟩) nd.1
      have keep : (t.map fun e => if e.1 = k then (e.1, n) else e) = t := by
        refine (List.map_congr_left fun y hy => ?_).trans (List.map_id _)
        have : ¬ y.1 = k := fun z => nd.1 (List.mem_map.mpr ⟨y, hy, by rw [z, c]⟩)
        rw [if_neg this]
        rfl
      have e9 : (t.map fun e => if e.1 = k then (e.1, n) else e).map (·.2) = t.map (·.2) := by rw [keep]
      rw [if_pos c, ex]
      show n + ((t.map fun e => if e.1 = k then (e.1, n) else e).map (·.2)).sum = e0.2 + (t.map (·.2)).sum - e0.2 + n
      rw [e9]
      omega
    · have h' : e0 ∈ t := by
        rcases List.mem_cons.mp h with z | z
        · rw [z] at e
          exact absurd e c
        · exact z
      have := ih nd.2 h'
      rw [if_neg c, this]
      omega
theorem CT.put {ks : List Run} {its : List Str} (c : CT ks its) (k : Str) (n : Nat) (hn : 1 ≤ n) : ∃ ks', putK (ks.map entK) (Sum.inr k) (.int (((its.count k : Nat) : Int) + (n : Int))) = ks'.map entK ∧ CT ks' (its ++ List.replicate n k) ∧ ks'.length ≤ ks.length + 1 := by
  have cnt : ∀ j : Str, (its ++ List.replicate n k).count j = its.count j + if j = k then n else 0 := by
    intro j
    rw [List.count_append, List.count_replicate]
    congr 1
    by_cases e : j = k
    · rw [if_pos e, if_pos (by rw [e]; exact beq_self_eq_true k)]
    · rw [if_neg e, if_neg (fun z => e (eq_of_beq z).symm)]
  have mem : ∀ j : Str, j ∈ its ++ List.replicate n k ↔ j ∈ its ∨ j = k := by
    intro j
    rw [List.mem_append, List.mem_replicate]
    exact ⟨fun h => h.elim .inl fun z => .inr z.2, fun h => h.elim .inl fun z => .inr ⟨by omega, z⟩⟩
  by_cases hk : k ∈ its
  · have hk' := (c.cov k).mp hk
    obtain ⟨e0, he0, ek⟩ := List.mem_map.mp hk'
    have any : ((ks.map entK).any fun kv => decide (kv.1 = (Sum.inr k : L2.Key))) = true := by
      rw [List.any_eq_true]
      exact ⟨entK e0, List.mem_map.mpr ⟨e0, he0, rfl⟩, decide_eq_true (by show (Sum.inr e0.1 : L2.Key) = _; rw [ek])⟩
    have keys : (ks.map fun e => if e.1 = k then (e.1, ((its.count k : Nat) : Int) + (n : Int)) else e).map (·.1) = ks.map (·.1) := by
      rw [List.map_map]
      refine List.map_congr_left fun e _ => ?_
      show (if e.1 = k then (e.1, ((its.count k : Nat) : Int) + (n : Int)) else e).1 = e.1
      split <;> rfl
    refine ⟨ks.map fun e => if e.1 = k then (e.1, ((its.count k : Nat) : Int) + (n : Int)) else e, ?_, ⟨by rw [keys]; exact c.nd, fun e he => ?_, fun j => ?_, ?_⟩, by rw [List.length_map]; omega⟩
    · unfold putK
      rw [if_pos any, key_map]
    · obtain ⟨x, hx, ex⟩ := List.mem_map.mp he
      rw [← ex, cnt]
      by_cases d : x.1 = k
      · rw [if_pos d]
        show ((its.count k : Nat) : Int) + (n : Int) = ((its.count x.1 + if x.1 = k then n else 0 : Nat) : Int)
        rw [if_pos d, d]
        omega
      · rw [if_neg d, if_neg d]
        exact c.val x hx
    · rw [keys, mem, c.cov j]
      exact ⟨fun h => h.elim id fun z => by rw [z]; exact hk', .inl⟩
    · rw [sum_set c.nd he0 ek, c.sum, c.val e0 he0, ek, List.length_append, List.length_replicate]
      omega
  · have hk' : k ∉ ks.map (·.1) := fun z => hk ((c.cov k).mpr z)
    have any : ¬ ((ks.map entK).any fun kv => decide (kv.1 = (Sum.inr k : L2.Key))) = true := by
      rw [List.any_eq_true]
      rintro ⟨kv, h1, h2⟩
      obtain ⟨e, he, ee⟩ := List.mem_map.mp h1
      have := of_decide_eq_true h2
      rw [← ee] at this
      exact hk' (List.mem_map.mpr ⟨e, he, Sum.inr.inj this⟩)
    have z0 : its.count k = 0 := List.count_eq_zero_of_not_mem hk
    refine ⟨ks ++ [(k, ((its.count k : Nat) : Int) + (n : Int))], ?_, ⟨?_, fun e he => ?_, fun j => ?_, ?_⟩, by rw [List.length_append]; exact Nat.le_refl _⟩
    · unfold putK
      rw [if_neg any, List.map_append]
      rfl
    · rw [List.map_append]
      refine List.nodup_append.mpr ⟨c.nd, List.nodup_cons.mpr ⟨by simp, List.nodup_nil⟩, fun a ha b hb => ?_⟩
      rw [List.mem_singleton.mp hb]
      intro z
      rw [z] at ha
      exact hk' ha
    · rw [cnt]
      rcases List.mem_append.mp he with z | z
      · have ne : e.1 ≠ k := fun w => hk' (List.mem_map.mpr ⟨e, z, w⟩)
        rw [if_neg ne]
        exact c.val e z
      · rw [List.mem_singleton.mp z]
        show ((its.count k : Nat) : Int) + (n : Int) = ((its.count k + if k = k then n else 0 : Nat) : Int)
        rw [if_pos rfl]
        omega
    · rw [mem, List.map_append, List.mem_append, c.cov j]
      show _ ∨ _ ↔ _ ∨ j ∈ [k]
      rw [List.mem_singleton]
    · rw [List.map_append, List.sum_append, c.sum, List.length_append, List.length_replicate, z0]
      show _ + ((((0 : Nat) : Int) + (n : Int)) + 0) = _
      omega
/-! ### sorted counts are unique -/
theorem Same.butB {H H1 H' : Hp} {D : Addr} (n : H D = none) (s : Same H H1) (b : But D H1 H') : Same H H' := fun a o e => b _ _ (ne_of_none e n) (s _ _ e)
def ltR (x y : Run) : Prop := x.1.cps.toList < y.1.cps.toList
theorem uniq_sorted : ∀ {l m : List Run}, l.Pairwise ltR → m.Pairwise ltR → (∀ x, x ∈ l ↔ x ∈ m) → l = m
  | [], [], _, _, _ => rfl
  | [], b :: m, _, _, h => absurd ((h b).mpr (List.mem_cons_self ..)) (by simp)
  | a :: l, [], _, _, h => absurd ((h a).mp (List.mem_cons_self ..)) (by simp)
  | a :: l, b :: m, hl, hm, h => by
    have hl := List.pairwise_cons.mp hl
    have hm := List.pairwise_cons.mp hm
    have e : a = b := by
      rcases List.mem_cons.mp ((h a).mp (List.mem_cons_self ..)) with z | z
      · exact z
      · rcases List.mem_cons.mp ((h b).mpr (List.mem_cons_self ..)) with w | w
        · exact w.symm
        · exact absurd (hl.1 b w) (List.lt_asymm (hm.1 a z))
    subst e
    congr 1
    refine uniq_sorted hl.2 hm.2 fun x => ⟨fun hx => ?_, fun hx => ?_⟩
    · rcases List.mem_cons.mp ((h x).mp (List.mem_cons_of_mem _ hx)) with z | z
      · rw [z] at hx
        exact absurd (hl.1 a hx) (List.lt_irrefl _)
      · exact z
    · rcases List.mem_cons.mp ((h x).mpr (List.mem_cons_of_mem _ hx)) with z | z
      · rw [z] at hx
        exact absurd (hm.1 a hx) (List.lt_irrefl _)
      · exact z
theorem lt_of_not {x y : Str} (n : x ≠ y) (h : ¬ y.cps.toList < x.cps.toList) : x.cps.toList < y.cps.toList := by
  by_cases c : x.cps.toList < y.cps.toList
  · exact c
  · exact absurd (UPS.str_of (List.le_antisymm h c)) n
theorem CT.strict {ks : List Run} {its : List Str} (c : CT ks its) (s : ks.Pairwise fun x y => UPS.lexS y x = false) : ks.Pairwise ltR := by
  have nd : ks.Pairwise fun x y => x.1 ≠ y.1 := List.pairwise_map.mp c.nd
  refine (List.Pairwise.and nd s).imp fun {x y} h => ?_
  exact lt_of_not h.1 ((UPS.lexS_no.mp h.2).2 fun z => h.1 z.symm)
theorem CT.eq {ks ls : List Run} {its : List Str} (c : CT ks its) (d : CT ls its) (s : ks.Pairwise fun x y => UPS.lexS y x = false) (t : ls.Pairwise fun x y => UPS.lexS y x = false) : ks = ls := by
  have sub : ∀ {a b : List Run}, CT a its → CT b its → ∀ x ∈ a, x ∈ b := by
    intro a b ca cb x hx
    have hk := (ca.cov x.1).mpr (List.mem_map.mpr ⟨x, hx, rfl⟩)
    obtain ⟨e, he, ee⟩ := List.mem_map.mp ((cb.cov x.1).mp hk)
    have : e = x := Prod.ext ee (by rw [cb.val e he, ca.val x hx, ee])
    rw [← this]
    exact he
  exact uniq_sorted (c.strict s) (d.strict t) fun x => ⟨sub c d x, sub d c x⟩
section
variable {P : Program} {w : World} {K : PySem.W.Frag} {mg : Str → Option Value} {base : Heap}
end
end UP

set_option Elab.async false
set_option linter.all false
set_option maxRecDepth 100000
set_option maxHeartbeats 4000000
namespace UP
open PySem PySem.Spec PyProof.Rows L2 L2.DX
theorem eqv_same {a : Bool} (h : a = true) : (!a) = false := by rw [h]; rfl
theorem eqv_runs {rs : List Run} : PyData.eqv (.list (rs.map dRun)) (.list (rs.map dRun)) = true := by
  have gen : ∀ (rs : List Run), PyData.eqvAll (rs.map dRun) (rs.map dRun) = true := by
    intro rs
    induction rs with
    | nil => rfl
    | cons r t ih =>
      rw [List.map_cons, PyData.eqvAll, ih]
      simp [dRun, PyData.eqv, PyData.eqvAll]
  rw [PyData.eqv]
  exact gen rs
theorem eqv_strs {ks : List Str} : PyData.eqv (.list (ks.map PyData.str)) (.list (ks.map PyData.str)) = true := by
  have gen : ∀ (ks : List Str), PyData.eqvAll (ks.map PyData.str) (ks.map PyData.str) = true := by
    intro rs
    induction rs with
    | nil => rfl
    | cons r t ih =>
      rw [List.map_cons, PyData.eqvAll, ih]
      simp [PyData.eqv]
  rw [PyData.eqv]
  exact gen ks
theorem dp_strs {K : PySem.W.Frag} {H : Hp} : ∀ (ks : List Str), DpAll K H (ks.map V.str) (ks.map PyData.str)
  | [] => .nil
  | k :: t => .cons (.str k) (dp_strs t)
theorem shaped_strs {ks : List Str} (h : ∀ k ∈ ks, KindOk k) : SeqAt.shaped (.list (ks.map PyData.str)) = true := by
  have can : ∀ (ks : List Str), (∀ k ∈ ks, KindOk k) → PyData.canLayAll0 (ks.map PyData.str) = true := by
    intro ks
    induction ks with
    | nil => intro _; rfl
    | cons k t ih =>
      intro h
      rw [List.map_cons, PyData.canLayAll0, ih fun x hx => h x (List.mem_cons_of_mem _ hx), PyData.canLay0, (h k (List.mem_cons_self ..)).str]
      rfl
  have dep : ∀ (ks : List Str), PyData.depthAll (ks.map PyData.str) ≤ 1 := by
    intro ks
    induction ks with
    | nil => exact Nat.zero_le _
    | cons k t ih =>
      rw [List.map_cons, PyData.depthAll]
      exact Nat.max_le.mpr ⟨by rw [PyData.depth]; omega, ih⟩
  unfold SeqAt.shaped
  rw [PyData.canLay0, can ks h, PyData.depth]
  have := dep ks
  exact decide_eq_true (by omega)
theorem pick2 {x y r : Int} (h0 : 0 ≤ r) (h1 : r < 2) : ∃ g, atI [V.int x, V.int y] r = some (.int g) ∧ (g = x ∨ g = y) := by
  by_cases h : r = 0
  · subst h
    exact ⟨x, rfl, .inl rfl⟩
  · have e : r = 1 := by omega
    subst e
    exact ⟨y, rfl, .inr rfl⟩
/-! ### parts, by their items -/
theorem cut_its {s e : Int} : ∀ (rs : List Run) (b : Int), (∀ r ∈ rs, 1 ≤ r.2) → itR (cutR s e b rs) = ((itR rs).take (e - b).toNat).drop (s - b).toNat
  | [], b, _ => by
    show ([] : List Str) = (([] : List Str).take _).drop _
    rw [List.take_nil, List.drop_nil]
  | r :: t, b, k => by
    have c1 := k r (List.mem_cons_self ..)
    have ih := cut_its (s := s) (e := e) t (b + r.2) fun x hx => k x (List.mem_cons_of_mem _ hx)
    have e1 : cutR s e b (r :: t) = pieceR b s e r ++ cutR s e (b + r.2) t := rfl
    have e2 : itR (r :: t) = List.replicate r.2.toNat r.1 ++ itR t := rfl
    have ep : itR (pieceR b s e r) = List.replicate (min (e - b).toNat r.2.toNat - (s - b).toNat) r.1 := by
      by_cases hs : 0 < sizeR b s e r.2
      · rw [show pieceR b s e r = [(r.1, sizeR b s e r.2)] from if_pos hs]
        show List.replicate (sizeR b s e r.2).toNat r.1 ++ [] = _
        rw [List.append_nil]
        congr 1
        unfold sizeR at hs ⊢
        split at hs <;> split at hs <;> (first | rw [if_pos (by omega)] | rw [if_neg (by omega)]) <;> (first | rw [if_pos (by omega)] | rw [if_neg (by omega)]) <;> omega
      · rw [show pieceR b s e r = [] from if_neg hs]
        have : min (e - b).toNat r.2.toNat - (s - b).toNat = 0 := by
          unfold sizeR at hs
          split at hs <;> split at hs <;> omega
        rw [this]
        rfl
    rw [e1, it_app, ih, e2, take_app, List.length_replicate, List.take_replicate, List.drop_append, List.length_replicate, List.drop_replicate, ep, show (e - (b + r.2)).toNat = (e - b).toNat - r.2.toNat by omega]
    congr 1
    by_cases h : (e - b).toNat ≤ r.2.toNat
    · rw [show (e - b).toNat - r.2.toNat = 0 by omega, List.take_zero, List.drop_nil, List.drop_nil]
    · rw [show (s - (b + r.2)).toNat = (s - b).toNat - min (e - b).toNat r.2.toNat by omega]
theorem cut_pre {s e : Int} : ∀ (rs : List Run) (b : Int), s ≤ b → (∀ r ∈ rs, 1 ≤ r.2) → ∃ n, (cutR s e b rs).map (·.1) = (rs.map (·.1)).take n
  | [], _, _, _ => ⟨0, rfl⟩
  | r :: t, b, h0, k => by
    have c1 := k r (List.mem_cons_self ..)
    by_cases hs : 0 < sizeR b s e r.2
    · obtain ⟨n, hn⟩ := cut_pre (s := s) (e := e) t (b + r.2) (by omega) fun x hx => k x (List.mem_cons_of_mem _ hx)
      refine ⟨n + 1, ?_⟩
      show (pieceR b s e r ++ cutR s e (b + r.2) t).map (·.1) = r.1 :: (t.map (·.1)).take n
      rw [show pieceR b s e r = [(r.1, sizeR b s e r.2)] from if_pos hs, List.map_append, hn]
      rfl
    · refine ⟨0, ?_⟩
      have il : itR (cutR s e b (r :: t)) = [] := by
        rw [cut_its _ _ k, show (e - b).toNat = 0 by unfold sizeR at hs; split at hs <;> split at hs <;> omega, List.take_zero, List.drop_nil]
      have ll := len_it (cutR s e b (r :: t)) cutR_pos
      rw [il] at ll
      cases hc : cutR s e b (r :: t) with
      | nil => rfl
      | cons x u =>
        rw [hc] at ll
        have px : ∀ y ∈ x :: u, 1 ≤ y.2 := by rw [← hc]; exact cutR_pos
        have := len_mem px x (List.mem_cons_self ..)
        have := px x (List.mem_cons_self ..)
        have ll : ((0 : Nat) : Int) = lenR (x :: u) := ll
        omega
theorem cut_sub {s e : Int} : ∀ (rs : List Run) (b : Int), (∀ r ∈ rs, 1 ≤ r.2) → ∃ m n, (cutR s e b rs).map (·.1) = ((rs.map (·.1)).drop m).take n
  | [], _, _ => ⟨0, 0, rfl⟩
  | r :: t, b, k => by
    have c1 := k r (List.mem_cons_self ..)
    by_cases hb : s < b + r.2
    · by_cases hs : 0 < sizeR b s e r.2
      · obtain ⟨n, hn⟩ := cut_pre (s := s) (e := e) t (b + r.2) (by omega) fun x hx => k x (List.mem_cons_of_mem _ hx)
        refine ⟨0, n + 1, ?_⟩
        show (pieceR b s e r ++ cutR s e (b + r.2) t).map (·.1) = r.1 :: (t.map (·.1)).take n
        rw [show pieceR b s e r = [(r.1, sizeR b s e r.2)] from if_pos hs, List.map_append, hn]
        rfl
      · refine ⟨0, 0, ?_⟩
        have il : itR (cutR s e b (r :: t)) = [] := by
          rw [cut_its _ _ k]
          refine List.drop_of_length_le ?_
          rw [List.length_take]
          unfold sizeR at hs
          split at hs <;> split at hs <;> omega
        have ll := len_it (cutR s e b (r :: t)) cutR_pos
        rw [il] at ll
        cases hc : cutR s e b (r :: t) with
        | nil => rfl
        | cons x u =>
          rw [hc] at ll
          have px : ∀ y ∈ x :: u, 1 ≤ y.2 := by rw [← hc]; exact cutR_pos
          have := len_mem px x (List.mem_cons_self ..)
          have := px x (List.mem_cons_self ..)
          have ll : ((0 : Nat) : Int) = lenR (x :: u) := ll
          omega
    · obtain ⟨m, n, hn⟩ := cut_sub (s := s) (e := e) t (b + r.2) fun x hx => k x (List.mem_cons_of_mem _ hx)
      refine ⟨m + 1, n, ?_⟩
      have hs : ¬ 0 < sizeR b s e r.2 := by
        unfold sizeR
        split <;> split <;> omega
      show (pieceR b s e r ++ cutR s e (b + r.2) t).map (·.1) = ((t.map (·.1)).drop m).take n
      rw [show pieceR b s e r = [] from if_neg hs]
      exact hn
theorem alt_sub {rs hs : List Run} {m n : Nat} (h : hs.map (·.1) = ((rs.map (·.1)).drop m).take n) (a : Alt rs) : Alt hs := by
  intro i x y hx hy
  have g : ∀ (j : Nat) (z : Run), hs[j]? = some z → ∃ w, rs[m + j]? = some w ∧ w.1 = z.1 := by
    intro j z hz
    have := congrArg (fun l : List Str => l[j]?) h
    simp only [List.getElem?_map, hz, List.getElem?_take] at this
    split at this
    · rw [List.getElem?_drop, List.getElem?_map] at this
      cases e : rs[m + j]? with
      | none => rw [e] at this; cases this
      | some w =>
        rw [e] at this
        exact ⟨w, rfl, (Option.some.inj this).symm⟩
    · cases this
  obtain ⟨x', h1, e1⟩ := g i x hx
  obtain ⟨y', h2, e2⟩ := g (i + 1) y hy
  rw [← e1, ← e2]
  exact a (m + i) x' y' h1 h2
theorem cut_kind {s e : Int} : ∀ (rs : List Run) (b : Int), ∀ x ∈ cutR s e b rs, ∃ r ∈ rs, x.1 = r.1 ∧ x.2 ≤ r.2
  | [], _, x, h => by cases h
  | r :: t, b, x, h => by
    rcases List.mem_append.mp (show x ∈ pieceR b s e r ++ cutR s e (b + r.2) t from h) with z | z
    · by_cases hs : 0 < sizeR b s e r.2
      · rw [show pieceR b s e r = [(r.1, sizeR b s e r.2)] from if_pos hs] at z
        rw [List.mem_singleton.mp z]
        refine ⟨r, List.mem_cons_self .., rfl, ?_⟩
        show sizeR b s e r.2 ≤ r.2
        unfold sizeR
        split <;> split <;> omega
      · rw [show pieceR b s e r = [] from if_neg hs] at z
        cases z
    · obtain ⟨r', h1, h2⟩ := cut_kind t _ x z
      exact ⟨r', List.mem_cons_of_mem _ h1, h2⟩
theorem seq_cut {s e : Int} {rs : List Run} (ok : SeqOk rs) : SeqOk (cutR s e 0 rs) := by
  have pos : ∀ r ∈ rs, 1 ≤ r.2 := fun r hr => (ok.2.1 r hr).2.1
  refine ⟨Nat.le_trans (cutR_len s e rs 0) ok.1, fun x hx => ?_, ?_⟩
  · obtain ⟨r, hr, e1, e2⟩ := cut_kind rs 0 x hx
    have o := ok.2.1 r hr
    have l := cutR_pos x hx
    refine ⟨by rw [e1]; exact o.1, l, ?_⟩
    have := o.2.2
    omega
  · obtain ⟨m, n, h⟩ := cut_sub (s := s) (e := e) rs 0 pos
    exact alt_sub h ok.2.2
theorem same_runs {rs cs : List Run} (a : SeqOk rs) (b : SeqOk cs) (h : itR rs = itR cs) : rs = cs := by
  rw [← run_it a.2.2 (fun r hr => (a.2.1 r hr).2.1), ← run_it b.2.2 (fun r hr => (b.2.1 r hr).2.1), h]
theorem it_addc (rs : List Run) (r : Run) (p : ∀ r ∈ rs, 1 ≤ r.2) (c : 1 ≤ r.2) (a : Alt rs) : itR (addR rs r) = itR rs ++ List.replicate r.2.toNat r.1 ∧ (∀ x ∈ addR rs r, 1 ≤ x.2) ∧ Alt (addR rs r) := by
  rcases List.eq_nil_or_concat rs with e0 | ⟨R0, l, e0⟩
  · subst e0
    refine ⟨it_one r.1 r.2, fun x hx => ?_, fun i x y hx hy => by cases hy⟩
    rw [List.mem_singleton.mp (show x ∈ [r] from hx)]
    exact c
  · rw [List.concat_eq_append] at e0
    subst e0
    have c1 := p l (List.mem_append.mpr (.inr (List.mem_singleton.mpr rfl)))
    by_cases h : l.1 = r.1
    · rw [addR_more R0 l r h]
      refine ⟨?_, fun x hx => ?_, ?_⟩
      · rw [it_app, it_app, List.append_assoc, it_one]
        congr 1
        have e : itR [l] = List.replicate l.2.toNat l.1 := it_one l.1 l.2
        rw [e, h, List.replicate_append_replicate]
        congr 1
        omega
      · rcases List.mem_append.mp hx with z | z
        · exact p x (List.mem_append.mpr (.inl z))
        · rw [List.mem_singleton.mp z]
          show 1 ≤ l.2 + r.2
          omega
      · refine alt_sub (rs := R0 ++ [l]) (m := 0) (n := (R0 ++ [l]).length) ?_ a
        rw [List.drop_zero, List.map_append, List.map_append, List.take_of_length_le (by rw [List.length_append, List.length_append, List.length_map]; exact Nat.le_refl _)]
        show R0.map (·.1) ++ [r.1] = R0.map (·.1) ++ [l.1]
        rw [h]
    · rw [addR_new (fun l' hl => by rw [List.getLast?_concat] at hl; cases hl; exact h)]
      refine ⟨by rw [it_app]; congr 1; exact it_one r.1 r.2, fun x hx => ?_, ?_⟩
      · rcases List.mem_append.mp hx with z | z
        · exact p x z
        · rw [List.mem_singleton.mp z]
          exact c
      · refine alt_snoc a fun y hy => ?_
        rw [← List.getLast?_eq_getElem?, List.getLast?_concat] at hy
        cases hy
        exact h
theorem it_join : ∀ (cs rs : List Run), (∀ r ∈ rs, 1 ≤ r.2) → Alt rs → (∀ r ∈ cs, 1 ≤ r.2) → itR (joinR rs cs) = itR rs ++ itR cs ∧ (∀ r ∈ joinR rs cs, 1 ≤ r.2) ∧ Alt (joinR rs cs)
  | [], rs, p, a, _ => by
    refine ⟨?_, p, a⟩
    show itR rs = itR rs ++ []
    rw [List.append_nil]
  | c :: t, rs, p, a, pc => by
    obtain ⟨h1, h2, h3⟩ := it_addc rs c p (pc c (List.mem_cons_self ..)) a
    obtain ⟨g1, g2, g3⟩ := it_join t (addR rs c) h2 h3 fun r hr => pc r (List.mem_cons_of_mem _ hr)
    refine ⟨?_, g2, g3⟩
    show itR (joinR (addR rs c) t) = itR rs ++ (List.replicate c.2.toNat c.1 ++ itR t)
    rw [g1, h1, List.append_assoc]
theorem head_it {rs : List Run} (p : ∀ r ∈ rs, 1 ≤ r.2) : rs.head?.map (·.1) = (itR rs)[0]? := by
  cases rs with
  | nil => rfl
  | cons r t =>
    have c1 := p r (List.mem_cons_self ..)
    obtain ⟨n, hn⟩ : ∃ n : Nat, r.2.toNat = n + 1 := ⟨r.2.toNat - 1, by omega⟩
    show some r.1 = (List.replicate r.2.toNat r.1 ++ itR t)[0]?
    rw [hn]
    rfl
theorem kind_pos {rs : List Run} {m : Int} {k : Str} (p : ∀ r ∈ rs, 1 ≤ r.2) (m0 : 0 ≤ m) (h : (itR rs)[m.toNat]? = some k) : (cutR m (m + 1) 0 rs).head?.map (·.1) = some k := by
  rw [head_it cutR_pos, cut_its _ _ p, List.getElem?_drop, List.getElem?_take, if_pos (by omega), Int.sub_zero, Nat.add_zero]
  exact h
theorem merge_id : ∀ (kvs acc : List (L2.Key × V)), ((acc ++ kvs).map (·.1)).Nodup → mergeK acc kvs = acc ++ kvs
  | [], acc, _ => by
    rw [List.append_nil]
    rfl
  | x :: t, acc, h => by
    have e : (acc ++ [x]) ++ t = acc ++ x :: t := by rw [List.append_assoc]; rfl
    have no : valV acc x.1 = none := by
      cases hv : valV acc x.1 with
      | none => rfl
      | some v =>
        exfalso
        rw [List.map_append] at h
        have h3 := (List.nodup_append.mp h).2.2
        have hm : x.1 ∈ acc.map (·.1) := by
          unfold valV at hv
          cases hf : acc.find? fun kv => decide (kv.1 = x.1) with
          | none => rw [hf] at hv; cases hv
          | some kv =>
            have e1 := List.find?_some (p := fun kv : L2.Key × V => decide (kv.1 = x.1)) hf
            exact List.mem_map.mpr ⟨kv, List.mem_of_find?_eq_some hf, of_decide_eq_true e1⟩
        exact h3 _ hm _ (List.mem_map.mpr ⟨x, List.mem_cons_self .., rfl⟩) rfl
    show mergeK (putK acc x.1 x.2) t = acc ++ x :: t
    rw [putK_new x.2 no, show ((x.1, x.2) : L2.Key × V) = x from rfl, merge_id t (acc ++ [x]) (by rw [e]; exact h), e]
theorem CT.merge {ks : List Run} {its : List Str} (c : CT ks its) : mergeK [] (ks.map entK) = ks.map entK := by
  refine (merge_id _ [] ?_).trans (List.nil_append _)
  rw [List.nil_append, List.map_map]
  have e : ks.map ((fun kv : L2.Key × V => kv.1) ∘ entK) = (ks.map (·.1)).map Sum.inr := by rw [List.map_map]; rfl
  rw [e]
  exact List.pairwise_map.mpr (c.nd.imp fun h z => h (Sum.inr.inj z))
theorem refs_run {H : Hp} : ∀ {xs : List V} {Q : List Run}, Paired (RunV H) xs Q → ∃ ps : List Addr, xs = ps.map V.ref ∧ Paired (fun p q => H p = some (.tup [kV (entK q).1, (entK q).2])) ps Q
  | _, _, .nil => ⟨[], rfl, .nil⟩
  | _, _, .cons ⟨t, e, h⟩ r => by
    obtain ⟨ps, e2, h2⟩ := refs_run r
    exact ⟨t :: ps, by rw [e, e2]; rfl, .cons h h2⟩
theorem Paired.mapr {α β γ : Type} {F : α → β → Prop} {G : α → γ → Prop} {f : β → γ} (h : ∀ a b, F a b → G a (f b)) : ∀ {xs : List α} {ys : List β}, Paired F xs ys → Paired G xs (ys.map f)
  | _, _, .nil => .nil
  | _, _, .cons a r => .cons (h _ _ a) (Paired.mapr h r)
theorem dict_get {H : Hp} {d : Addr} {ks : List Run} {its : List Str} (c : CT ks its) (k : Str) (h : H d = some (.dK (mergeK [] (ks.map entK)))) : ∃ o, DGet H d (.str k) o ∧ o.getD (.int 0) = .int ((its.count k : Nat) : Int) := by
  rw [c.merge] at h
  exact ⟨_, DGet.k (k := Sum.inr k) h, c.get k⟩
end UP

set_option Elab.async false
set_option linter.all false
set_option maxRecDepth 100000
set_option maxHeartbeats 4000000
namespace UP
open PySem PySem.Spec PyProof.Rows L2
/-! ### the reel: a list of two lists of ints and two ints -/
def Reel (H : Hp) (p : Addr) : Prop := ∃ (g c : Addr) (gs cs : List Int) (n s : Int), H p = some (.lst [.ref g, .ref c, .int n, .int s]) ∧ H g = some (.lst (gs.map V.int)) ∧ H c = some (.lst (cs.map V.int)) ∧ gs.length ≤ 63 ∧ (∀ x ∈ gs, 0 ≤ x) ∧ 0 < cs.length ∧ cs.length ≤ 64 ∧ 0 ≤ n ∧ 0 ≤ s ∧ s < 170141183460469231731687303715884105727
def Off (H : Hp) (p D : Addr) : Prop := ∃ (g c : Addr) (n s : Int), H p = some (.lst [.ref g, .ref c, .int n, .int s]) ∧ D ≠ p ∧ D ≠ g ∧ D ≠ c
theorem not_ints {g c : Addr} {n s : Int} {l : List Int} : (HO.lst [.ref g, .ref c, .int n, .int s]) ≠ .lst (l.map V.int) := by
  intro h
  have h := HO.lst.inj h
  cases l with
  | nil => cases h
  | cons x t => cases h
theorem Reel.off {H : Hp} {p D : Addr} (z : Reel H p) (n : H D = none) : Off H p D := by
  obtain ⟨g, c, gs, cs, i, s, hp, hg, hc, _⟩ := z
  exact ⟨g, c, i, s, hp, fun e => by (rw [e, hp] at n; cases n), fun e => by (rw [e, hg] at n; cases n), fun e => by (rw [e, hc] at n; cases n)⟩
theorem Reel.ne {H : Hp} {p D : Addr} (z : Reel H p) (n : H D = none) : D ≠ p := by
  obtain ⟨_, _, _, _, _, h, _⟩ := z.off n
  exact h
theorem Off.ne {H : Hp} {p D : Addr} (z : Off H p D) : D ≠ p := by
  obtain ⟨_, _, _, _, _, h, _⟩ := z
  exact h
theorem Reel.same {H H' : Hp} {p : Addr} (z : Reel H p) (s : Same H H') : Reel H' p := by
  obtain ⟨g, c, gs, cs, i, t, hp, hg, hc, r⟩ := z
  exact ⟨g, c, gs, cs, i, t, s _ _ hp, s _ _ hg, s _ _ hc, r⟩
theorem Off.same {H H' : Hp} {p D : Addr} (z : Off H p D) (s : Same H H') : Off H' p D := by
  obtain ⟨g, c, i, t, hp, r⟩ := z
  exact ⟨g, c, i, t, s _ _ hp, r⟩
theorem Off.upd {H : Hp} {p D D' : Addr} {o : HO} (z : Off H p D) (n : D' ≠ p) : Off (upd H D' o) p D := by
  obtain ⟨g, c, i, t, hp, r⟩ := z
  exact ⟨g, c, i, t, by rw [upd_ne n.symm]; exact hp, r⟩
theorem Reel.upd {H : Hp} {p D : Addr} {x : HO} (z : Reel H p) (o : Off H p D) : Reel (upd H D x) p := by
  obtain ⟨g, c, gs, cs, i, t, hp, hg, hc, r⟩ := z
  obtain ⟨g', c', i', t', hp', n1, n2, n3⟩ := o
  rw [hp] at hp'
  cases hp'
  exact ⟨g, c, gs, cs, i, t, by rw [upd_ne n1.symm]; exact hp, by rw [upd_ne n2.symm]; exact hg, by rw [upd_ne n3.symm]; exact hc, r⟩
/-- all but the reel stays, and what was not of the reel is not of it -/
structure RB (p : Addr) (H H' : Hp) : Prop where
  but : But p H H'
  off : ∀ D o, H D = some o → Off H p D → Off H' p D
theorem RB.refl {p : Addr} {H : Hp} : RB p H H := ⟨But.refl, fun _ _ _ h => h⟩
theorem RB.trans {p : Addr} {H H1 H2 : Hp} (a : RB p H H1) (b : RB p H1 H2) : RB p H H2 := ⟨a.but.trans b.but, fun D o e h => b.off D o (a.but D o h.ne e) (a.off D o e h)⟩
theorem RB.of {p : Addr} {H H' : Hp} (s : Same H H') : RB p H H' := ⟨sb s, fun _ _ _ h => h.same s⟩
theorem RB.free {p q : Addr} {H H' : Hp} (b : RB p H H') (z : Reel H' p) (h : H' q = none) : H q = none := by
  by_cases e : q = p
  · exact absurd e (z.ne h)
  · cases r : H q with
    | none => rfl
    | some o =>
      rw [b.but q o e r] at h
      cases h
theorem RB.grow {p D : Addr} {H H' : Hp} {x : HO} (b : RB p H H') (n : H D = none) (o : Off H' p D) : RB p H (L2.upd H' D x) := ⟨fun q r e h => by
    rw [upd_ne (ne_of_none h n)]
    exact b.but q r e h, fun E r h k => (b.off E r h k).upd o.ne⟩
theorem RB.run {p : Addr} {H H' : Hp} {v : V} {r : Run} (b : RB p H H') (z : Reel H p) (h : RunV H v r) : RunV H' v r := by
  obtain ⟨t, e, h⟩ := h
  obtain ⟨_, _, _, _, _, _, hp, _⟩ := z
  exact ⟨t, e, b.but _ _ (ne_of h hp (by intro q; cases q)) h⟩
theorem RB.st {p : Addr} {H H' : Hp} {v : V} {st : Option Run} (b : RB p H H') (z : Reel H p) (h : StV H v st) : StV H' v st := by
  cases st with
  | none => exact h
  | some r => exact b.run z h
theorem RB.strs {p a : Addr} {H H' : Hp} {ks : List Str} (b : RB p H H') (z : Reel H p) (h : H a = some (.lst (ks.map V.str))) : H' a = some (.lst (ks.map V.str)) := by
  obtain ⟨_, _, _, _, _, _, hp, _⟩ := z
  refine b.but _ _ (ne_of h hp fun q => ?_) h
  have q := HO.lst.inj q
  cases ks with
  | nil => cases q
  | cons x t => cases q
theorem RB.tup {p a : Addr} {H H' : Hp} {xs : List V} (b : RB p H H') (z : Reel H p) (h : H a = some (.tup xs)) : H' a = some (.tup xs) := by
  obtain ⟨_, _, _, _, _, _, hp, _⟩ := z
  exact b.but _ _ (ne_of h hp (by intro q; cases q)) h
/-! ### lists of ints -/
theorem dp_intl {K : PySem.W.Frag} {H : Hp} : ∀ (l : List Int), DpAll K H (l.map V.int) (l.map PyData.int)
  | [] => .nil
  | x :: t => .cons (.int x) (dp_intl t)
theorem can_intl : ∀ (l : List Int), PyData.canLayAll0 (l.map PyData.int) = true
  | [] => by simp [PyData.canLayAll0]
  | x :: t => by
    rw [List.map_cons, PyData.canLayAll0, can_intl t]
    simp [PyData.canLay0]
theorem depth_intl : ∀ (l : List Int), PyData.depthAll (l.map PyData.int) ≤ 1
  | [] => by simp [PyData.depthAll]
  | x :: t => by
    rw [List.map_cons, PyData.depthAll]
    exact Nat.max_le.mpr ⟨by simp [PyData.depth], depth_intl t⟩
theorem shaped_intl (l : List Int) : SeqAt.shaped (.list (l.map PyData.int)) = true := by
  unfold SeqAt.shaped
  rw [PyData.canLay0, can_intl l, PyData.depth]
  have := depth_intl l
  exact decide_eq_true (by omega)
theorem eqv_nilI (l : List Int) : PyData.eqv (.list (l.map PyData.int)) (.list []) = l.isEmpty := by
  cases l with
  | nil => simp [PyData.eqv, PyData.eqvAll]
  | cons r t => simp [PyData.eqv, PyData.eqvAll]
theorem cut_dropR (xs : List V) (r : Int) (h0 : 0 ≤ r) (h1 : r ≤ xs.length) : cutV xs (some r) none = xs.drop r.toNat := by
  have e : HT.sIx xs.length 0 (some r) = r.toNat := by
    have := HT.sIx_nat xs.length 0 r.toNat
    rw [show ((r.toNat : Nat) : Int) = r by omega] at this
    omega
  unfold cutV
  rw [e, HT.sIx_none, List.take_of_length_le (by rw [List.length_drop]; exact Nat.le_refl _)]
theorem atI_ofR {α : Type} {l : List α} {i : Int} {x : α} (h0 : 0 ≤ i) (h : l[i.toNat]? = some x) : atI l i = some x := by
  have e : i = (i.toNat : Int) := by omega
  rw [e]
  exact atI_nat h
theorem at40 {α : Type} {x y z u : α} : atI [x, y, z, u] 0 = some x := rfl
theorem at41 {α : Type} {x y z u : α} : atI [x, y, z, u] 1 = some y := rfl
theorem at42 {α : Type} {x y z u : α} : atI [x, y, z, u] 2 = some z := rfl
theorem at43 {α : Type} {x y z u : α} : atI [x, y, z, u] 3 = some u := rfl
section
variable {P : Program} {w : World} {K : PySem.W.Frag} {mg : Str → Option Value} {base : Heap}
/-! _law_draw: slots 0:reel 1:many 2:extra 3:stir 4:rest -/
abbrev s_law_draw : Stmt := topS 56
theorem sc_law_draw : FnScope ["reel", "many", "extra", "stir", "rest"] ["reel", "many"] (defScope s_law_draw) := ⟨rfl, rfl, rfl, by decide +kernel, rfl, by decide +kernel, by decide +kernel⟩
def sp_law_draw : Sp := fun vs H Q _ => ∃ (p : Addr) (m : Int), vs = [.ref p, .int m] ∧ Reel H p ∧ 1 ≤ m ∧ m.natAbs < 2 ^ 8000 ∧ ∀ H' r, RB p H H' → Reel H' p → 0 ≤ r → r < m → Q (.int r) H'
theorem p127 : (2 : Int) ^ ((64 : Int).toNat) * 2 ^ ((63 : Int).toNat) - 1 = 170141183460469231731687303715884105727 := by decide +kernel
theorem ok_law_draw (D : Df K mg "_law_draw" s_law_draw) (T : Tx mg) : Has P w K mg base 1 "_law_draw" ["reel", "many"] sp_law_draw := by
  refine has_of D sc_law_draw (fun _ _ _ _ _ _ us hl => match us, hl with | [_, _], _ => rfl) (fun vs H Q E h => ?_) (fun f cdv A outer s₀ H vs Q E hr h => ?_)
  · obtain ⟨a, rs, rfl, _⟩ := h
    rfl
  · obtain ⟨p, m, rfl, z, m1, m2, q⟩ := h
    have z0 := z
    obtain ⟨g, c, gs, cs, n, s, hp, hg, hc, lg, g0, lc, lc2, n0, s0, s1⟩ := z
    refine ⟨_, (pss_cons (ps_if (pt_cmpR (op_neD hr.units) (pe_ix ix_list (pv 0) pe_int (fun _ _ => rfl)) (pe_lst pa_nil) (nomark _)) (pss_cons (ps_set (i := 4) sc_law_draw.nd rfl (by first | exact Or.inl rfl | exact Or.inr rfl) (pe_ix ix_list (pe_ix ix_list (pv 0) pe_int (fun _ _ => rfl)) pe_int (fun _ _ => rfl)))
    (pss_cons (ps_asg (pe_op op_cat (pe_op op_rep (pe_lst (pa_cons (pe_op op_fdivW (pv 4) (pv 1)) pa_nil)) (pe_callTy call_int1 (by rfl) T.n_int (by decide +kernel) (pa_cons (pe_cmpR op_ge (pv 4) (pv 1) (nomark _)) pa_nil))) (pe_slice sl_list (pe_ix ix_list (pv 0) pe_int (fun _ _ => rfl)) (po_some pe_int) po_none)) (pg_sub (pv 0) pe_int set_list))
    (pss_one (ps_ret (pe_op op_mod (pv 4) (pv 1)))))) pss_nil)
    (pss_cons (ps_asg (pe_op op_add (pe_ix ix_list (pv 0) pe_int (fun _ _ => rfl)) pe_int) (pg_sub (pv 0) pe_int set_list))
    (pss_cons (ps_set (i := 2) sc_law_draw.nd rfl (by first | exact Or.inl rfl | exact Or.inr rfl) (pe_ix ix_list (pe_ix ix_list (pv 0) pe_int (fun _ _ => rfl)) (pe_op op_mod (pe_ix ix_list (pv 0) pe_int (fun _ _ => rfl)) (pe_callB call_len_seq (by rfl) T.n_len (by decide +kernel) (pa_cons (pe_ix ix_list (pv 0) pe_int (fun _ _ => rfl)) pa_nil))) (fun _ _ => rfl)))
    (pss_cons (ps_set (i := 3) sc_law_draw.nd rfl (by first | exact Or.inl rfl | exact Or.inr rfl) (pe_op op_add (pe_op op_add (pe_op op_mulW (pe_ix ix_list (pv 0) pe_int (fun _ _ => rfl)) (pe_ix ix_list (pv 0) pe_int (fun _ _ => rfl))) (pe_op op_mul (pe_op op_add (pv 2) pe_int) pe_int)) (pe_op op_mul (pe_ix ix_list (pv 0) pe_int (fun _ _ => rfl)) pe_int)))
    (pss_cons (ps_asg (pe_op op_mod (pv 3) (pe_op op_sub (pe_op op_mul (pe_op op_pow pe_int pe_int) (pe_op op_pow pe_int pe_int)) pe_int)) (pg_sub (pv 0) pe_int set_list))
    (pss_one (ps_ret (pe_op op_mod (pe_op op_fdivW (pe_ix ix_list (pv 0) pe_int (fun _ _ => rfl)) (pe_op op_pow pe_int pe_int)) (pv 1))))))))), ?_⟩
    refine ⟨_, rfl, p, _, 0, _, rfl, rfl, .of hp, at40, Nat.zero_le _, fun e ne => ?_⟩
    have se := same_upd (o := .lst []) ne
    refine ⟨.list (gs.map PyData.int), .list [], .lst (.of (se _ _ hg)) (dp_intl gs), .lst (.of upd_same) .nil, shaped_intl gs, shaped_nil, _, rfl, ?_⟩
    rw [eqv_nilI]
    replace hp := se _ _ hp
    replace hg := se _ _ hg
    replace hc := se _ _ hc
    have z1 := z0.same se
    generalize L2.upd H e (.lst []) = H1 at *
    cases gs with
    | cons x t =>
      refine iteP rfl ?_
      have x0 := g0 x (List.mem_cons_self ..)
      refine ⟨_, rfl, p, _, 0, _, rfl, rfl, .of hp, at40, g, _, 0, _, rfl, rfl, .of hg, atI_ofR (Int.le_refl _) rfl, ?_⟩
      refine ⟨_, rfl, _, rfl, _, _, rfl, rfl, wide_div (by omega) m2 (by decide) (by decide), (by show 1 ≤ sizeLine; decide), fun l1 n1 => ?_⟩
      have u1 := same_upd (o := .lst [.int (x / m)]) n1
      refine ⟨_, rfl, _, rfl, _, _, rfl, rfl, .inr ⟨_, rfl, l1, _, _, rfl, rfl, upd_same, ?_⟩⟩
      have hk : ∃ k : Nat, k ≤ 1 ∧ (if decide (m ≤ x) = true then (1 : Int) else 0) = (k : Int) := by
        by_cases y : m ≤ x
        · exact ⟨1, Nat.le_refl _, by rw [decide_eq_true y]; rfl⟩
        · exact ⟨0, Nat.zero_le _, by rw [decide_eq_false y]; rfl⟩
      obtain ⟨k, k1, ek⟩ := hk
      rw [show (if decide (x ≥ m) = true then (1 : Int) else 0) = (k : Int) from ek]
      refine ⟨by omega, by omega, ?_, fun l2 n2 => ?_⟩
      · rw [Int.toNat_natCast]
        show 1 * k ≤ sizeLine
        exact Nat.le_of_lt (small (by omega))
      rw [Int.toNat_natCast, show (List.replicate k [V.int (x / m)]).flatten = (List.replicate k (x / m)).map V.int by rw [List.map_replicate, List.flatten_replicate_singleton]]
      have u2 := same_upd (o := .lst ((List.replicate k (x / m)).map V.int)) n2
      refine ⟨_, rfl, p, _, 0, _, rfl, rfl, .of (u2 _ _ (u1 _ _ hp)), at40, _, rfl, g, _, rfl, SqL.of (u2 _ _ (u1 _ _ hg)), fun l3 n3 => ?_⟩
      rw [cut_dropR _ 1 (by omega) (by rw [List.length_map, List.length_cons]; omega), show ((x :: t).map V.int).drop (1 : Int).toNat = t.map V.int from rfl]
      have u3 := same_upd (o := .lst (t.map V.int)) n3
      refine ⟨l2, l3, _, _, rfl, rfl, u3 _ _ upd_same, upd_same, ?_, fun l4 n4 => ?_⟩
      · rw [List.length_map, List.length_map, List.length_replicate]
        rw [List.length_cons] at lg
        exact Nat.le_of_lt (small (by omega))
      have u4 := same_upd (o := .lst ((List.replicate k (x / m)).map V.int ++ t.map V.int)) n4
      have sA := u1.trans (u2.trans (u3.trans u4))
      refine ⟨_, rfl, p, _, 0, 0, rfl, rfl, sA _ _ hp, rfl, ?_⟩
      refine ⟨_, rfl, _, rfl, _, _, rfl, rfl, (by omega), ?_⟩
      have n4p : l4 ≠ p := (ne_of_none ((u1.trans (u2.trans u3)) _ _ hp) n4).symm
      refine q _ _ ⟨fun b o nb eb => ?_, fun D o eD oD => ?_⟩ ⟨l4, c, List.replicate k (x / m) ++ t, cs, n, s, upd_same, ?_, ?_, ?_, ?_, lc, lc2, n0, s0, s1⟩ (Int.emod_nonneg _ (by omega)) (Int.emod_lt_of_pos _ (by omega))
      · rw [upd_ne nb]
        exact sA _ _ (se _ _ eb)
      · obtain ⟨g', c', i', t', hp', e1, e2, e3⟩ := oD.same se
        rw [hp] at hp'
        cases hp'
        refine ⟨l4, c, n, s, upd_same, e1, ?_, e3⟩
        exact ne_of_none ((u1.trans (u2.trans u3)) _ _ (se _ _ eD)) n4
      · rw [upd_ne n4p, upd_same, List.map_append]
      · rw [upd_ne (ne_of hc hp (fun q => not_ints q.symm))]
        exact sA _ _ hc
      · rw [List.length_append, List.length_replicate]
        rw [List.length_cons] at lg
        omega
      · intro y hy
        rcases List.mem_append.mp hy with h | h
        · rw [List.eq_of_mem_replicate h]
          exact Int.ediv_nonneg x0 (by omega)
        · exact g0 y (List.mem_cons_of_mem _ h)
    | nil =>
      refine iteN rfl ?_
      refine ⟨_, rfl, p, _, 2, _, rfl, rfl, .of hp, at42, _, _, rfl, rfl, ?_⟩
      refine ⟨_, rfl, p, _, 2, 2, rfl, rfl, hp, rfl, ?_⟩
      have np : c ≠ p := ne_of hc hp (fun q => not_ints q.symm)
      have h2 : (L2.upd H1 p (.lst [.ref g, .ref c, .int (n + 1), .int s])) p = some (.lst [.ref g, .ref c, .int (n + 1), .int s]) := upd_same
      have hc2 : (L2.upd H1 p (.lst [.ref g, .ref c, .int (n + 1), .int s])) c = some (.lst (cs.map V.int)) := by rw [upd_ne np]; exact hc
      have ix0 := Int.emod_nonneg (n + 1) (b := (cs.length : Int)) (by omega)
      have ix1 := Int.emod_lt_of_pos (n + 1) (b := (cs.length : Int)) (by omega)
      obtain ⟨x, hx⟩ : ∃ x, cs[((n + 1) % (cs.length : Int)).toNat]? = some x := ⟨_, List.getElem?_eq_getElem (by omega)⟩
      have hx2 : (cs.map V.int)[((n + 1) % (cs.length : Int)).toNat]? = some (.int x) := by rw [List.getElem?_map, hx]; rfl
      refine ⟨_, rfl, p, _, 1, _, rfl, rfl, .of h2, at41, _, rfl, p, _, 2, _, rfl, rfl, .of h2, at42, _, rfl, p, _, 1, _, rfl, rfl, .of h2, at41, c, _, rfl, .inl (.of hc2), ?_⟩
      rw [List.length_map]
      refine ⟨_, _, rfl, rfl, (by omega), c, _, _, _, rfl, rfl, .of hc2, atI_ofR ix0 hx2, ?_⟩
      refine ⟨_, rfl, p, _, 3, _, rfl, rfl, .of h2, at43, _, rfl, p, _, 3, _, rfl, rfl, .of h2, at43, _, _, rfl, rfl, wide_mul (a := 127) (b := 127) (by omega) (by omega) (by decide) (by decide) (by decide), _, rfl, _, _, rfl, rfl, _, _, rfl, rfl, .inr ⟨by decide, by decide⟩, _, _, rfl, rfl, _, rfl, p, _, 2, _, rfl, rfl, .of h2, at42, _, _, rfl, rfl, .inr ⟨by decide, by decide⟩, _, _, rfl, rfl, ?_⟩
      refine ⟨_, rfl, _, _, rfl, rfl, ⟨by decide, by decide, by decide⟩, _, _, rfl, rfl, ⟨by decide, by decide, by decide⟩, _, _, rfl, rfl, .inr ⟨by decide +kernel, by decide +kernel⟩, _, _, rfl, rfl, _, _, rfl, rfl, ?_, ?_⟩
      · rw [p127]
        show (0 : Int) < 170141183460469231731687303715884105727
        decide
      rw [p127]
      refine ⟨_, rfl, p, _, 3, 3, rfl, rfl, h2, rfl, ?_⟩
      have h3 : ∀ y : Int, (L2.upd (L2.upd H1 p (.lst [.ref g, .ref c, .int (n + 1), .int s])) p (.lst [.ref g, .ref c, .int (n + 1), .int y])) p = some (.lst [.ref g, .ref c, .int (n + 1), .int y]) := fun y => upd_same
      refine ⟨_, rfl, p, _, 3, _, rfl, rfl, .of (h3 _), at43, _, _, rfl, rfl, ⟨by decide, by decide, by decide⟩, _, _, rfl, rfl, wide_div (b := 64) (by decide) (by decide) (by decide) (by decide), _, rfl, _, _, rfl, rfl, (by omega), ?_⟩
      have ng : g ≠ p := ne_of hg hp (fun q => not_ints (l := []) q.symm)
      refine q _ _ ⟨fun b o nb eb => ?_, fun D o eD oD => ?_⟩ ⟨g, c, [], cs, n + 1, _, h3 _, ?_, ?_, Nat.zero_le _, (fun y h => by cases h), lc, lc2, by omega, Int.emod_nonneg _ (by decide), Int.emod_lt_of_pos _ (by decide)⟩ (Int.emod_nonneg _ (by omega)) (Int.emod_lt_of_pos _ (by omega))
      · rw [upd_ne nb, upd_ne nb]
        exact se _ _ eb
      · obtain ⟨g', c', i', t', hp', e1, e2, e3⟩ := oD.same se
        rw [hp] at hp'
        cases hp'
        exact ⟨g, c, _, _, h3 _, e1, e2, e3⟩
      · rw [upd_ne ng, upd_ne ng]
        exact hg
      · rw [upd_ne np, upd_ne np]
        exact hc
end
end UP

set_option Elab.async false
set_option linter.all false
set_option maxRecDepth 100000
set_option maxHeartbeats 4000000
namespace UP
open PySem PySem.Spec PyProof.Rows L2
theorem SqL.sameR {K : PySem.W.Frag} {H H' : Hp} {a : Addr} {xs : List V} (h : SqL K H a xs) (s : Same H H') : SqL K H' a xs := h.elim (fun z => .inl (z.elim (fun y => .inl (s _ _ y)) (fun ⟨o, y⟩ => .inr ⟨o, s _ _ y⟩))) (fun z => .inr z)
theorem erase_permR {α : Type} : ∀ (l : List α) (i : Nat) (h : i < l.length), (l[i] :: l.eraseIdx i).Perm l
  | [], i, h => absurd h (Nat.not_lt_zero _)
  | x :: t, 0, _ => List.Perm.refl _
  | x :: t, i + 1, h => by
    have h' : i < t.length := Nat.lt_of_succ_lt_succ h
    show (t[i] :: x :: t.eraseIdx i).Perm (x :: t)
    exact (List.Perm.swap x _ _).trans ((erase_permR t i h').cons x)
theorem cut63 (ns : List Int) : ∃ ms : List Int, cutV (ns.map V.int) none (some 63) = ms.map V.int ∧ ms.length ≤ 63 := by
  refine ⟨_, by unfold cutV; rw [← List.map_drop, ← List.map_take], ?_⟩
  rw [List.length_take, List.length_drop]
  have : HT.sIx (ns.map V.int).length (ns.map V.int).length (some 63) ≤ 63 := by
    have := HT.sIx_nat (ns.map V.int).length (ns.map V.int).length 63
    have e : HT.sIx (ns.map V.int).length (ns.map V.int).length (some 63) = HT.sIx (ns.map V.int).length (ns.map V.int).length (some ((63 : Nat) : Int)) := rfl
    rw [e, this]
    exact Nat.min_le_left ..
  omega
theorem int_at {ms : List Int} {i : Nat} {x : V} (h : (ms.map V.int)[i]? = some x) : ∃ n, x = .int n := by
  rw [List.getElem?_map] at h
  cases e : ms[i]? with
  | none =>
    rw [e] at h
    cases h
  | some n =>
    rw [e] at h
    exact ⟨n, (Option.some.inj h).symm⟩
section
variable {P : Program} {w : World} {K : PySem.W.Frag} {mg : Str → Option Value} {base : Heap}
/-! _law_reel: slots 0:script 1:stir 2:cell 3:great -/
abbrev s_law_reel : Stmt := topS 55
theorem sc_law_reel : FnScope ["script", "stir", "cell", "great"] ["script"] (defScope s_law_reel) := ⟨rfl, rfl, rfl, by decide +kernel, rfl, by decide +kernel, by decide +kernel⟩
def sp_law_reel (K : PySem.W.Frag) : Sp := fun vs H Q _ => ∃ (a : Addr) (ns : List Int), vs = [.ref a] ∧ SqL K H a (ns.map V.int) ∧ ∀ H' p, Same H H' → H p = none → Reel H' p → Q (.ref p) H'
theorem ok_law_reel (D : Df K mg "_law_reel" s_law_reel) (T : Tx mg) : Has P w K mg base 1 "_law_reel" ["script"] (sp_law_reel K) := by
  refine has_of D sc_law_reel (fun _ _ _ _ _ _ us hl => match us, hl with | [_], _ => rfl) (fun vs H Q E h => ?_) (fun f cdv A outer s₀ H vs Q E hr h => ?_)
  · obtain ⟨a, rs, rfl, _⟩ := h
    rfl
  · obtain ⟨a, ns, rfl, hS, q⟩ := h
    obtain ⟨ms, em, lm⟩ := cut63 ns
    refine ⟨_, (pss_cons (ps_set (i := 1) sc_law_reel.nd rfl (by first | exact Or.inl rfl | exact Or.inr rfl) (pe_op op_pow pe_int pe_int))
    (pss_cons (ps_for PassesOwn.never rfl (pi_list (pe_slice sl_list (pv 0) po_none (po_some pe_int))) (pg_name (i := 2) sc_law_reel.nd rfl (by first | exact Or.inl rfl | exact Or.inr rfl))
      (pss_one (ps_set (i := 1) sc_law_reel.nd rfl (by first | exact Or.inl rfl | exact Or.inr rfl) (pe_op op_mod (pe_op op_add (pe_op op_add (pe_op op_mulW (pv 1) (pv 1)) (pe_op op_mod (pv 2) pe_int)) pe_int) (pe_op op_sub (pe_op op_mul (pe_op op_pow pe_int pe_int) (pe_op op_pow pe_int pe_int)) pe_int)))))
    (pss_cons (ps_setLc (i := 3) (own := [("cell", 2)]) rfl sc_law_reel.nd rfl rfl (sw_true rfl rfl rfl (by decide +kernel)) (pi_list (pe_slice sl_list (pv 0) po_none (po_some pe_int))) (blkOk_by (N := ["script", "stir", "cell", "great"]) (sc := defScope s_law_reel) (by decide +kernel)) (fun _ _ _ _ _ => (pg_name (i := 2) sc_law_reel.nd rfl (by first | exact Or.inl rfl | exact Or.inr rfl))) (fun _ _ _ _ _ => pts_one (pt_cmpR op_ge (pv 2) (pe_op op_pow pe_int pe_int) (nomark _))) (fun _ _ _ _ _ => (pe_op op_sub (pv 2) (pe_op op_pow pe_int pe_int))))
    (pss_one (ps_ret (pe_lst (pa_cons (pv 3) (pa_cons (pe_op op_cat (pe_lc (own := [("cell", 2)]) rfl sc_law_reel.nd (pi_list (pe_slice sl_list (pv 0) po_none (po_some pe_int))) (blkOk_by (N := ["script", "stir", "cell", "great"]) (sc := defScope s_law_reel) (by decide +kernel)) (fun _ _ _ _ _ => (pg_name (i := 2) sc_law_reel.nd rfl (by first | exact Or.inl rfl | exact Or.inr rfl))) (fun _ _ _ _ _ => pts_nil) (fun _ _ _ _ _ => (pe_op op_mod (pv 2) pe_int))) (pe_lst (pa_cons pe_int pa_nil))) (pa_cons pe_int (pa_cons (pv 1) pa_nil)))))))))), ?_⟩
    refine ⟨_, _, rfl, rfl, ⟨by decide, by decide, by decide⟩, ?_⟩
    refine ⟨_, rfl, _, rfl, a, _, rfl, hS, fun c nc => ?_⟩
    rw [em]
    have sc : Same H (upd H c (.lst (ms.map V.int))) := same_upd nc
    refine ⟨c, rfl, ⟨_, .of upd_same⟩, for_list (K := K) (a := c) (xs := ms.map V.int) (fun i σ H' => ∃ s y2, σ = [some (.ref a), some (.int s), y2, none] ∧ H' = upd H c (.lst (ms.map V.int)) ∧ 0 ≤ s ∧ s < 170141183460469231731687303715884105727)
      ⟨_, none, rfl, rfl, by decide +kernel, by decide +kernel⟩ (fun i σ H' _ hP => ?_) (fun i x σ H4 ex hP => ?_) (fun σ H4 hP => ?_)⟩
    · obtain ⟨_, _, _, rfl, _⟩ := hP
      exact .of upd_same
    · obtain ⟨s, y2, rfl, rfl, s0, s1⟩ := hP
      obtain ⟨n, rfl⟩ := int_at ex
      refine ⟨_, rfl, _, rfl, _, _, rfl, rfl, wide_mul (a := 127) (b := 127) (by omega) (by omega) (by decide) (by decide) (by decide), _, rfl, _, _, rfl, rfl, (by show (0 : Int) < 1000000000000000003; decide), _, _, rfl, rfl, _, _, rfl, rfl, _, _, rfl, rfl, ⟨by decide, by decide, by decide⟩, _, _, rfl, rfl, ⟨by decide, by decide, by decide⟩, _, _, rfl, rfl, .inr ⟨by decide +kernel, by decide +kernel⟩, _, _, rfl, rfl, _, _, rfl, rfl, ?_, ?_⟩
      · rw [p127]
        show (0 : Int) < 170141183460469231731687303715884105727
        decide
      rw [p127]
      exact ⟨_, _, rfl, rfl, Int.emod_nonneg _ (by decide), Int.emod_lt_of_pos _ (by decide)⟩
    · obtain ⟨s, y2, rfl, rfl, s0, s1⟩ := hP
      generalize upd H c (.lst (ms.map V.int)) = H1 at *
      refine ⟨_, rfl, _, rfl, a, _, rfl, SqL.sameR hS sc, fun c2 nc2 => ?_⟩
      rw [em]
      have sc2 : Same H1 (upd H1 c2 (.lst (ms.map V.int))) := same_upd nc2
      refine ⟨c2, rfl, ⟨_, .of upd_same⟩, fun L nL => lc_list (K := K) (a := c2) (xs := ms.map V.int) (fun i H' => Same (upd H1 c2 (.lst (ms.map V.int))) H' ∧ ∃ gs : List Int, H' L = some (.lst (gs.map V.int)) ∧ gs.length ≤ i ∧ ∀ x ∈ gs, 0 ≤ x)
        ⟨same_upd nL, [], upd_same, Nat.le_refl _, fun x h => by cases h⟩ (fun i H' _ p => .of (p.1 _ _ upd_same)) (fun i x H5 ex hP => ?_) (fun H5 hP => ?_)⟩
      · obtain ⟨s5, gs, hL, lg, g0⟩ := hP
        have hi : i < ms.length := by
          have := (List.getElem?_eq_some_iff.mp ex).1
          rw [List.length_map] at this
          exact this
        obtain ⟨n, rfl⟩ := int_at ex
        refine ⟨rfl, _, rfl, _, _, rfl, rfl, ⟨by decide, by decide, by decide⟩, _, _, rfl, rfl, _, rfl, ite2 (fun e => ?_) (fun e => ?_)⟩
        · have e : (10 : Int) ^ ((18 : Int).toNat) ≤ n := of_decide_eq_true e
          refine ⟨_, rfl, _, _, rfl, rfl, ⟨by decide, by decide, by decide⟩, _, _, rfl, rfl, _, hL, ?_, same_grow nL s5, gs ++ [n - (10 : Int) ^ ((18 : Int).toNat)], ?_, ?_, ?_⟩
          · rw [List.length_map]
            exact small (by omega)
          · rw [upd_same, List.map_append]
            rfl
          · rw [List.length_append]
            show gs.length + 1 ≤ i + 1
            omega
          · intro x hx
            rcases List.mem_append.mp hx with h | h
            · exact g0 x h
            · rw [List.mem_singleton.mp h]
              omega
        · exact ⟨s5, gs, hL, by omega, g0⟩
      · obtain ⟨s5, gs, hL, lg, g0⟩ := hP
        rw [List.length_map] at lg
        refine ⟨_, rfl, ?_⟩
        have sB : Same H1 H5 := sc2.trans s5
        refine ⟨_, rfl, _, rfl, a, _, rfl, SqL.sameR (SqL.sameR hS sc) sB, fun c3 nc3 => ?_⟩
        rw [em]
        have sc3 : Same H5 (upd H5 c3 (.lst (ms.map V.int))) := same_upd nc3
        refine ⟨c3, rfl, ⟨_, .of upd_same⟩, fun M nM => lc_list (K := K) (a := c3) (xs := ms.map V.int) (fun i H' => Same (upd H5 c3 (.lst (ms.map V.int))) H' ∧ ∃ cs : List Int, H' M = some (.lst (cs.map V.int)) ∧ cs.length = i)
          ⟨same_upd nM, [], upd_same, rfl⟩ (fun i H' _ p => .of (p.1 _ _ upd_same)) (fun i x H6 ex hP => ?_) (fun H6 hP => ?_)⟩
        · obtain ⟨s6, cs, hM, lc⟩ := hP
          have hi : i < ms.length := by
            have := (List.getElem?_eq_some_iff.mp ex).1
            rw [List.length_map] at this
            exact this
          obtain ⟨n, rfl⟩ := int_at ex
          refine ⟨rfl, yesT ⟨_, rfl, _, _, rfl, rfl, (by show (0 : Int) < 1000003; decide), _, hM, ?_, same_grow nM s6, cs ++ [n % 1000003], ?_, ?_⟩⟩
          · rw [List.length_map]
            exact small (by omega)
          · rw [upd_same, List.map_append]
            rfl
          · rw [List.length_append, lc]
            rfl
        · obtain ⟨s6, cs, hM, lc⟩ := hP
          rw [List.length_map] at lc
          refine ⟨(by show 1 ≤ sizeLine; decide), fun o no => ?_⟩
          have s7 := same_upd (o := .lst [.int 57]) no
          refine ⟨M, o, _, _, rfl, rfl, s7 _ _ hM, upd_same, ?_, fun r nr => ?_⟩
          · rw [List.length_map]
            show cs.length + 1 ≤ sizeLine
            exact Nat.le_of_lt (small (by omega))
          have s8 := same_upd (o := .lst (cs.map V.int ++ [.int 57])) nr
          refine ⟨_, rfl, (by show 4 ≤ sizeLine; decide), fun p np => ?_⟩
          have s9 := same_upd (o := .lst [.ref L, .ref r, .int 0, .int s]) np
          have sC := sc3.trans (s6.trans (s7.trans s8))
          have sT : Same H _ := sc.trans (sB.trans sC)
          refine q _ p (sT.trans s9) (sT.free np) ⟨L, r, gs, cs ++ [57], 0, s, upd_same, s9 _ _ (sC _ _ hL), ?_, by omega, g0, ?_, ?_, Int.le_refl _, s0, s1⟩
          · rw [s9 _ _ upd_same, List.map_append]
            rfl
          · rw [List.length_append]
            exact Nat.succ_pos _
          · rw [List.length_append]
            show cs.length + 1 ≤ 64
            omega
/-! _law_names: slots 0:reel 1:many 2:pool 3:turn -/
abbrev s_law_names : Stmt := topS 57
theorem sc_law_names : FnScope ["reel", "many", "pool", "turn"] ["reel", "many"] (defScope s_law_names) := ⟨rfl, rfl, rfl, by decide +kernel, rfl, by decide +kernel, by decide +kernel⟩
def thirteen : List Str := ["a", "b", "c", "ab", "zz", "z", "abcdefgh", "m", "ba", "q", "aa", "k", "waits"]
theorem thirteen_nd : thirteen.Nodup := by decide +kernel
theorem thirteen_no : ("other" : Str) ∉ thirteen := by decide +kernel
theorem thirteen_ok : ∀ s ∈ thirteen, KindOk s := by decide +kernel
def sp_law_names : Sp := fun vs H Q _ => ∃ (p : Addr) (m : Int), vs = [.ref p, .int m] ∧ Reel H p ∧ 0 ≤ m ∧ m ≤ 13 ∧ ∀ (H' : Hp) (l : Addr) (ks : List Str), RB p H H' → Reel H' p → H l = none → H' l = some (.lst (ks.map V.str)) → Off H' p l → ((ks.length : Nat) : Int) = m → (∀ s ∈ ks, KindOk s) → ks.Nodup ∧ sortedS ks = true ∧ ("other" : Str) ∉ ks → Q (.ref l) H'
theorem ok_law_names (D : Df K mg "_law_names" s_law_names) (T : Tx mg) (G_law_draw : Has P w K mg base 1 "_law_draw" ["reel", "many"] sp_law_draw) : Has P w K mg base 2 "_law_names" ["reel", "many"] sp_law_names := by
  refine has_of D sc_law_names (fun _ _ _ _ _ _ us hl => match us, hl with | [_, _], _ => rfl) (fun vs H Q E h => ?_) (fun f cdv A outer s₀ H vs Q E hr h => ?_)
  · obtain ⟨_, _, rfl, _⟩ := h
    rfl
  · obtain ⟨p, m, rfl, z, m1, m2, q⟩ := h
    refine ⟨_, (pss_cons (ps_set (i := 2) sc_law_names.nd rfl (by first | exact Or.inl rfl | exact Or.inr rfl) (pe_lst (pa_cons pe_str (pa_cons pe_str (pa_cons pe_str (pa_cons pe_str (pa_cons pe_str (pa_cons pe_str (pa_cons pe_str (pa_cons pe_str (pa_cons pe_str (pa_cons pe_str (pa_cons pe_str (pa_cons pe_str (pa_cons pe_str pa_nil)))))))))))))))
    (pss_one (ps_ret (pe_callB cr_sortedS (by rfl) T.n_sorted (by decide +kernel) (pa_cons (pe_lc (own := [("turn", 3)]) rfl sc_law_names.nd (pi_range1 (by rfl) T.n_range (pa_cons (pv 1) pa_nil)) (blkOk_by (N := ["reel", "many", "pool", "turn"]) (sc := defScope s_law_names) (by decide +kernel)) (fun _ _ _ _ _ => (pg_name (i := 3) sc_law_names.nd rfl (by first | exact Or.inl rfl | exact Or.inr rfl))) (fun _ _ _ _ _ => pts_nil) (fun _ _ _ _ _ => (pe_bmK (K := K) rfl (pe_bm PySem.F.plainAttrs_list PySem.F.slot_list_pop PySem.F.type_list_pop mt_popAt (pv 2) (pa_cons (pe_callH G_law_draw (hr.mono (by omega)) (by rfl) (pa_cons (pv 0) (pa_cons (pe_callB (call_len_seqK (K := K) rfl) (by rfl) T.n_len (by decide +kernel) (pa_cons (pv 2) pa_nil)) pa_nil))) pa_nil))))) pa_nil))))), ?_⟩
    refine ⟨(by show 13 ≤ sizeLine; decide), fun pl npl => ?_⟩
    have n1 := z.ne npl
    have opl : Off (upd H pl (.lst (thirteen.map V.str))) p pl := (z.off npl).upd n1
    have z1 : Reel (upd H pl (.lst (thirteen.map V.str))) p := z.same (same_upd npl)
    refine ⟨_, rfl, m, rfl, by omega, by omega, fun L nL => ?_⟩
    have nLp : L ≠ pl := fun e => by rw [e, upd_same] at nL; cases nL
    have nLH : H L = none := (same_upd npl).free nL
    have nLs := z1.ne nL
    refine lc_range (lo := 0) (n := m.toNat) (fun i H' => ∃ ps ks : List Str, RB p H H' ∧ Reel H' p ∧ Off H' p pl ∧ Off H' p L ∧ H' pl = some (.lst (ps.map V.str)) ∧ ps.length + i = 13 ∧ (∀ s ∈ ps, KindOk s) ∧ H' L = some (.lst (ks.map V.str)) ∧ ks.length = i ∧ (∀ s ∈ ks, KindOk s) ∧ (ps ++ ks).Perm thirteen)
      ⟨thirteen, [], (RB.of (same_upd npl)).trans (RB.of (same_upd nL)), z1.same (same_upd nL), opl.same (same_upd nL), (z1.off nL).upd nLs, by rw [upd_ne nLp.symm, upd_same]; rfl, rfl, thirteen_ok, upd_same, rfl, (fun s h => by cases h), by rw [List.append_nil]⟩ (fun i H3 hi hP => ?_) (fun H3 hP => ?_)
    · obtain ⟨ps, ks, b3, z3, o3, o3L, hpl, lp, okp, hL, lk, okk, pm0⟩ := hP
      refine ⟨rfl, yesT ⟨_, rfl, .inl ⟨rfl, _, SqL.of hpl⟩, _, rfl, _, rfl, pl, _, rfl, .inl (.of hpl), p, _, rfl, z3, ?_, ?_, fun H4 r4 b4 z4 r40 r41 => ?_⟩⟩
      · rw [List.length_map]
        omega
      · rw [List.length_map]
        exact wide8 (by omega) (by omega)
      · rw [List.length_map] at r41
        have lt : r4.toNat < ps.length := by omega
        have h4 : H4 pl = some (.lst (ps.map V.str)) := b4.but _ _ n1 hpl
        have hL4 : H4 L = some (.lst (ks.map V.str)) := b4.but _ _ nLs hL
        have o4 := b4.off _ _ hpl o3
        have o4L := b4.off _ _ hL o3L
        have ek : (ps.map V.str)[r4.toNat]? = some (.str ps[r4.toNat]) := by
          rw [List.getElem?_map, List.getElem?_eq_getElem lt]
          rfl
        have ix : seqIndex? r4 (ps.map V.str).length = some r4.toNat := by
          unfold seqIndex?
          rw [List.length_map]
          have e1 : ¬ r4 < 0 := by omega
          simp only [e1, if_false]
          rw [if_pos]
          simp
          omega
        refine ⟨pl, _, r4, r4.toNat, _, rfl, rfl, h4, by omega, by omega, ix, ek, ks.map V.str, ?_, ?_, ps.eraseIdx r4.toNat, ks ++ [ps[r4.toNat]], ?_, ?_, ?_, ?_, ?_, ?_, ?_, ?_, ?_, ?_, ?_⟩
        · rw [upd_ne nLp]
          exact hL4
        · rw [List.length_map]
          exact small (by omega)
        · exact ((b3.trans b4).grow npl o4).grow nLH (o4L.upd n1)
        · exact (z4.upd o4).upd (o4L.upd n1)
        · exact (o4.upd n1).upd nLs
        · exact (o4L.upd n1).upd nLs
        · rw [upd_ne nLp.symm, upd_same, erase_map]
        · rw [List.length_eraseIdx_of_lt lt]
          omega
        · intro s hs
          exact okp s (List.mem_of_mem_eraseIdx hs)
        · rw [upd_same, List.map_append]
          rfl
        · rw [List.length_append, lk]
          rfl
        · intro s hs
          rcases List.mem_append.mp hs with h | h
          · exact okk s h
          · rw [List.mem_singleton.mp h]
            exact okp _ (List.getElem_mem lt)
        · refine List.Perm.trans ?_ pm0
          have h1 := erase_permR ps r4.toNat lt
          refine List.Perm.trans ?_ (h1.append_right ks)
          rw [← List.append_assoc]
          exact List.perm_append_singleton ..
    · obtain ⟨ps, ks, b3, z3, o3, o3L, hpl, lp, okp, hL, lk, okk, pm0⟩ := hP
      refine ⟨L, ks, rfl, .of hL, by omega, fun ks' l pm so nl => ?_⟩
      have nlp := z3.ne nl
      exact q _ l ks' (b3.trans (RB.of (same_upd nl))) (z3.same (same_upd nl)) (b3.free z3 nl) upd_same ((z3.off nl).upd nlp) (by rw [pm.length_eq]; omega) (fun s hs => okk s (pm.mem_iff.mp hs)) ⟨pm.nodup_iff.mpr (List.nodup_append.mp (pm0.nodup_iff.mpr thirteen_nd)).2.1, so, fun z => thirteen_no (pm0.mem_iff.mp (List.mem_append.mpr (.inr (pm.mem_iff.mp z))))⟩
/-! _law_state: slots 0:reel 1:names 2:most 3:count -/
abbrev s_law_state : Stmt := topS 59
theorem sc_law_state : FnScope ["reel", "names", "most", "count"] ["reel", "names", "most"] (defScope s_law_state) := ⟨rfl, rfl, rfl, by decide +kernel, rfl, by decide +kernel, by decide +kernel⟩
def sp_law_state : Sp := fun vs H Q _ => ∃ (p l : Addr) (ks : List Str) (m : Int), vs = [.ref p, .ref l, .int m] ∧ Reel H p ∧ H l = some (.lst (ks.map V.str)) ∧ 0 < ks.length ∧ ks.length ≤ 1000 ∧ (∀ s ∈ ks, KindOk s) ∧ 0 ≤ m ∧ m.natAbs < 2 ^ 7999 ∧ ∀ H' v st, RB p H H' → Reel H' p → StV H' v st → StOk st → (∀ r, st = some r → r.2 ≤ m) → Q v H'
theorem ok_law_state (D : Df K mg "_law_state" s_law_state) (T : Tx mg) (G_law_draw : Has P w K mg base 1 "_law_draw" ["reel", "many"] sp_law_draw) : Has P w K mg base 2 "_law_state" ["reel", "names", "most"] sp_law_state := by
  refine has_of D sc_law_state (fun _ _ _ _ _ _ us hl => match us, hl with | [_, _, _], _ => rfl) (fun vs H Q E h => ?_) (fun f cdv A outer s₀ H vs Q E hr h => ?_)
  · obtain ⟨_, _, _, _, rfl, _⟩ := h
    rfl
  · obtain ⟨p, l, ks, m, rfl, z, hl, k1, k2, okk, m0, m2, q⟩ := h
    have mw : (m + 1).natAbs < 2 ^ 8000 := by
      rw [show (8000 : Nat) = 7999 + 1 from rfl, Nat.pow_succ]
      omega
    refine ⟨_, (pss_cons (ps_set (i := 3) sc_law_state.nd rfl (by first | exact Or.inl rfl | exact Or.inr rfl) (pe_callH G_law_draw (hr.mono (by omega)) (by rfl) (pa_cons (pv 0) (pa_cons (pe_op op_add (pv 2) pe_int) pa_nil))))
    (pss_one (ps_ret (pe_ifExp (pt_cmpR op_gt (pv 3) pe_int (nomark _)) (pe_tup (pa_cons (pe_ix ix_list (pv 1) (pe_callH G_law_draw (hr.mono (by omega)) (by rfl) (pa_cons (pv 0) (pa_cons (pe_callB call_len_seq (by rfl) T.n_len (by decide +kernel) (pa_cons (pv 1) pa_nil)) pa_nil))) (fun _ _ => rfl)) (pa_cons (pv 3) pa_nil))) pe_non)))), ?_⟩
    refine ⟨_, rfl, _, rfl, _, _, rfl, rfl, p, _, rfl, z, (by show 1 ≤ m + 1; omega), mw, fun H1 r b1 z1 r0 r1 => ?_⟩
    have r1 : r < m + 1 := r1
    have hl1 := b1.strs z hl
    refine ⟨_, rfl, _, _, rfl, rfl, _, rfl, ite2 (fun e => ?_) (fun e => ?_)⟩
    · have e : 0 < r := of_decide_eq_true e
      refine ⟨_, rfl, _, rfl, _, rfl, l, _, rfl, .inl (.of hl1), p, _, rfl, z1, ?_, ?_, fun H2 r2 b2 z2 r20 r21 => ?_⟩
      · rw [List.length_map]
        omega
      · rw [List.length_map]
        exact wide8 (by omega) (by omega)
      rw [List.length_map] at r21
      have lt : r2.toNat < ks.length := by omega
      have ek : (ks.map V.str)[r2.toNat]? = some (.str ks[r2.toNat]) := by
        rw [List.getElem?_map, List.getElem?_eq_getElem lt]
        rfl
      have kk : KindOk ks[r2.toNat] := okk _ (List.getElem_mem lt)
      generalize ks[r2.toNat] = kd at ek kk
      refine ⟨l, _, r2, _, rfl, rfl, .of (b2.strs z1 hl1), atI_ofR r20 ek, _, rfl, (by show 2 ≤ sizeLine; decide), fun t nt => ?_⟩
      refine q _ _ (some (kd, r)) ((b1.trans b2).trans (RB.of (same_upd nt))) (z2.same (same_upd nt)) ⟨t, rfl, upd_same⟩ (fun x h => ?_) (fun x h => ?_)
      · cases h
        exact ⟨kk, by show 1 ≤ r; omega⟩
      · cases h
        show r ≤ m
        omega
    · exact q _ _ none b1 z1 rfl (fun x h => by cases h) (fun x h => by cases h)
/-! _law_step: slots 0:state 1:kind 2:count 3:left -/
abbrev s_law_step : Stmt := topS 60
theorem sc_law_step : FnScope ["state", "kind", "count", "left"] ["state", "kind", "count"] (defScope s_law_step) := ⟨rfl, rfl, rfl, by decide +kernel, rfl, by decide +kernel, by decide +kernel⟩
def sp_law_step : Sp := fun vs H Q _ => ∃ (v : V) (st : Option Run) (k : Str) (c : Int), vs = [v, .str k, .int c] ∧ StV H v st ∧ 1 ≤ c ∧ ∀ H' v', Same H H' → StV H' v' (stepR st k c) → Q v' H'
theorem ok_law_step (D : Df K mg "_law_step" s_law_step) : Has P w K mg base 1 "_law_step" ["state", "kind", "count"] sp_law_step := by
  refine has_of D sc_law_step (fun _ _ _ _ _ _ us hl => match us, hl with | [_, _, _], _ => rfl) (fun vs H Q E h => ?_) (fun f cdv A outer s₀ H vs Q E hr h => ?_)
  · obtain ⟨_, _, _, _, rfl, _⟩ := h
    rfl
  · obtain ⟨v, st, k, c, rfl, hv, c1, q⟩ := h
    refine ⟨_, (pss_cons (ps_if (PW.pt (pw_or (pt_cmpR op_isN (pv 0) pe_non (nomark _)) (pw_or1 (pt_cmpR op_eq (pe_ix ix_tup (pv 0) pe_int (fun _ _ => rfl)) (pv 1) (nomark _))))) (pss_one (ps_ret (pe_tup (pa_cons (pv 1) (pa_cons (pe_op op_add (pv 2) (pe_ifExp (pt_cmpR op_isN (pv 0) pe_non (nomark _)) pe_int (pe_ix ix_tup (pv 0) pe_int (fun _ _ => rfl)))) pa_nil))))) pss_nil)
    (pss_cons (ps_set (i := 3) sc_law_step.nd rfl (by first | exact Or.inl rfl | exact Or.inr rfl) (pe_op op_sub (pe_ix ix_tup (pv 0) pe_int (fun _ _ => rfl)) (pv 2)))
    (pss_cons (ps_if (pt_cmpR op_eq (pv 3) pe_int (nomark _)) (pss_one (ps_ret pe_non)) pss_nil)
    (pss_one (ps_ret (pe_ifExp (pt_cmpR op_gt (pv 3) pe_int (nomark _)) (pe_tup (pa_cons (pe_ix ix_tup (pv 0) pe_int (fun _ _ => rfl)) (pa_cons (pv 3) pa_nil))) (pe_tup (pa_cons (pv 1) (pa_cons (pe_op op_sub pe_int (pv 3)) pa_nil))))))))), ?_⟩
    cases st with
    | none =>
      obtain rfl := hv
      refine ⟨_, rfl, rfl, _, rfl, iteP rfl (iteT ?_)⟩
      refine ⟨_, rfl, _, rfl, _, rfl, rfl, _, rfl, iteP rfl ⟨_, _, rfl, rfl, (by show 2 ≤ sizeLine; decide), fun t nt => q _ _ (same_upd nt) ⟨t, rfl, ?_⟩⟩⟩
      rw [upd_same]
      show some (HO.tup [V.str k, .int (c + 0)]) = some (.tup [.str k, .int c])
      rw [Int.add_zero]
    | some r =>
      obtain ⟨t, rfl, ht⟩ := hv
      refine ⟨_, rfl, rfl, _, rfl, iteN rfl ⟨_, rfl, t, _, 0, _, rfl, rfl, .of ht, at0, _, rfl, rfl, _, rfl, ite2 (fun e => ?_) (fun e => ?_)⟩⟩
      · have e : r.1 = k := V.str.inj (of_decide_eq_true e)
        refine ⟨_, rfl, _, rfl, _, rfl, rfl, _, rfl, iteN rfl ⟨_, rfl, t, _, 1, _, rfl, rfl, .of ht, at1, _, _, rfl, rfl, (by show 2 ≤ sizeLine; decide), fun u nu => q _ _ (same_upd nu) ?_⟩⟩
        rw [show stepR (some r) k c = some (k, r.2 + c) from if_pos e, Int.add_comm]
        exact ⟨u, rfl, upd_same⟩
      · have e : r.1 ≠ k := fun z => e (decide_eq_true (by show V.str r.1 = V.str k; rw [z]))
        have es : stepR (some r) k c = if 0 < r.2 - c then some (r.1, r.2 - c) else if r.2 - c = 0 then none else some (k, -(r.2 - c)) := if_neg e
        refine ⟨_, rfl, t, _, 1, _, rfl, rfl, .of ht, at1, _, rfl, _, _, rfl, rfl, ?_⟩
        by_cases e0 : r.2 - c = 0
        · refine ⟨_, rfl, rfl, _, rfl, iteP (decide_eq_true (by show V.int (r.2 - c) = V.int 0; rw [e0])) (q _ _ (Same.refl _) ?_)⟩
          rw [es, if_neg (by omega), if_pos e0]
          rfl
        · refine ⟨_, rfl, rfl, _, rfl, iteN (decide_eq_false fun z => e0 (V.int.inj z)) ?_⟩
          by_cases e1 : 0 < r.2 - c
          · refine ⟨_, rfl, _, _, rfl, rfl, _, rfl, iteP (decide_eq_true e1) ⟨_, rfl, t, _, 0, _, rfl, rfl, .of ht, at0, _, rfl, (by show 2 ≤ sizeLine; decide), fun u nu => q _ _ (same_upd nu) ?_⟩⟩
            rw [es, if_pos e1]
            exact ⟨u, rfl, upd_same⟩
          · refine ⟨_, rfl, _, _, rfl, rfl, _, rfl, iteN (decide_eq_false e1) ⟨_, rfl, _, rfl, _, _, rfl, rfl, (by show 2 ≤ sizeLine; decide), fun u nu => q _ _ (same_upd nu) ?_⟩⟩
            rw [es, if_neg e1, if_neg e0, show -(r.2 - c) = 0 - (r.2 - c) by omega]
            exact ⟨u, rfl, upd_same⟩
end
end UP

set_option Elab.async false
set_option linter.all false
set_option maxRecDepth 100000
set_option maxHeartbeats 4000000
namespace UP
open PySem PySem.Spec PyProof.Rows L2
def sp_noneR : Sp := fun _ _ _ _ => False
theorem simR_run {H : Hp} {p : Addr} {v : V} {r : Run} {n : Nat} (z : Reel H p) (h : RunV H v r) : Sim (· ≠ p) H (n + 1) v (dP r) := by
  obtain ⟨t, rfl, h⟩ := h
  obtain ⟨_, _, _, _, _, _, hs, _⟩ := z
  exact .inr ⟨t, _, _, rfl, ne_of h hs (by intro q; cases q), .inr h, rfl, sim_pair r, Nat.le_of_ble_eq_true rfl⟩
theorem simR_st {H : Hp} {p : Addr} {v : V} {st : Option Run} (z : Reel H p) (h : StV H v st) : Sim (· ≠ p) H 2 v (dSt st) := by
  cases st with
  | none =>
    cases h
    exact .inl (.inl ⟨rfl, rfl⟩)
  | some r => exact simR_run z h
section
variable {P : Program} {w : World} {K : PySem.W.Frag} {mg : Str → Option Value} {base : Heap}
end
end UP

set_option Elab.async false
set_option linter.all false
set_option maxRecDepth 100000
set_option maxHeartbeats 4000000
namespace UP
open PySem PySem.Spec PyProof.Rows L2
/-! ### distances -/
def kdV : Option Run → V
  | none => .non
  | some r => .str r.1
def distR (a b : Option Run) : Int := if kdV a = kdV b then (if numR a - numR b < 0 then -(numR a - numR b) else numR a - numR b) else numR a + numR b
theorem dist_ss (r s : Run) : distR (some r) (some s) = if r.1 = s.1 then (if r.2 - s.2 < 0 then -(r.2 - s.2) else r.2 - s.2) else r.2 + s.2 := by
  unfold distR
  by_cases e : r.1 = s.1
  · rw [if_pos e, if_pos (by show V.str r.1 = V.str s.1; rw [e])]
    rfl
  · rw [if_neg e, if_neg (show ¬ kdV (some r) = kdV (some s) from fun z => e (V.str.inj z))]
    rfl
theorem dist_nn : distR none none = 0 := rfl
theorem dist_ns (r : Run) : distR none (some r) = r.2 := by
  unfold distR
  rw [if_neg (by intro z; cases z)]
  show 0 + r.2 = r.2
  omega
theorem dist_sn (r : Run) : distR (some r) none = r.2 := by
  unfold distR
  rw [if_neg (by intro z; cases z)]
  show r.2 + 0 = r.2
  omega
theorem dist_comm (a b : Option Run) : distR a b = distR b a := by
  cases a with
  | none =>
    cases b with
    | none => rfl
    | some s => rw [dist_ns, dist_sn]
  | some r =>
    cases b with
    | none => rw [dist_ns, dist_sn]
    | some s =>
      rw [dist_ss, dist_ss]
      by_cases e : r.1 = s.1
      · rw [if_pos e, if_pos e.symm]
        split <;> split <;> omega
      · rw [if_neg e, if_neg fun z => e z.symm]
        omega
theorem dist_zero {a b : Option Run} (pa : PosO a) (pb : PosO b) : distR a b = 0 ↔ a = b := by
  cases a with
  | none =>
    cases b with
    | none => exact ⟨fun _ => rfl, fun _ => rfl⟩
    | some s =>
      have := pb s rfl
      rw [dist_ns]
      exact ⟨fun z => by omega, fun z => by cases z⟩
  | some r =>
    have h1 := pa r rfl
    cases b with
    | none =>
      rw [dist_sn]
      exact ⟨fun z => by omega, fun z => by cases z⟩
    | some s =>
      have h2 := pb s rfl
      rw [dist_ss]
      constructor
      · intro z
        by_cases e : r.1 = s.1
        · rw [if_pos e] at z
          have : r.2 = s.2 := by
            split at z <;> omega
          rw [show r = s from Prod.ext e this]
        · rw [if_neg e] at z
          omega
      · intro z
        cases z
        rw [if_pos rfl]
        split <;> omega
theorem dist_tri {a b c : Option Run} (pa : PosO a) (pb : PosO b) (pc : PosO c) : ¬ distR a c + distR c b < distR a b := by
  cases a with
  | none =>
    cases b with
    | none =>
      cases c with
      | none => rw [dist_nn]; omega
      | some t =>
        have := pc t rfl
        rw [dist_nn, dist_ns, dist_sn]
        omega
    | some s =>
      have h2 := pb s rfl
      cases c with
      | none => rw [dist_nn, dist_ns]; omega
      | some t =>
        have := pc t rfl
        rw [dist_ns, dist_ss, dist_ns]
        split
        · split <;> omega
        · omega
  | some r =>
    have h1 := pa r rfl
    cases b with
    | none =>
      cases c with
      | none => rw [dist_nn, dist_sn]; omega
      | some t =>
        have := pc t rfl
        rw [dist_sn, dist_sn, dist_ss]
        split
        · split <;> omega
        · omega
    | some s =>
      have h2 := pb s rfl
      cases c with
      | none =>
        rw [dist_sn, dist_ns, dist_ss]
        split
        · split <;> omega
        · omega
      | some t =>
        have h3 := pc t rfl
        rw [dist_ss, dist_ss, dist_ss]
        by_cases e1 : r.1 = t.1
        · by_cases e2 : t.1 = s.1
          · rw [if_pos e1, if_pos e2, if_pos (e1.trans e2)]
            split <;> split <;> split <;> omega
          · rw [if_pos e1, if_neg e2, if_neg (fun z => e2 (e1.symm.trans z))]
            split <;> omega
        · by_cases e2 : t.1 = s.1
          · rw [if_neg e1, if_pos e2, if_neg (show ¬ r.1 = s.1 from fun z => e1 (z.trans e2.symm))]
            split <;> omega
          · rw [if_neg e1, if_neg e2]
            split
            · split <;> omega
            · omega
/-- one arrival: the distance stays or falls by 2 -/
theorem dist_step {a b : Option Run} {k : Str} (pa : PosO a) (pb : PosO b) : distR (stepR a k 1) (stepR b k 1) = distR a b ∨ distR (stepR a k 1) (stepR b k 1) = distR a b - 2 := by
  have sn : stepR none k 1 = some (k, 1) := rfl
  have sp : ∀ r : Run, 1 ≤ r.2 → (r.1 = k ∧ stepR (some r) k 1 = some (k, r.2 + 1)) ∨ (r.1 ≠ k ∧ 2 ≤ r.2 ∧ stepR (some r) k 1 = some (r.1, r.2 - 1)) ∨ (r.1 ≠ k ∧ r.2 = 1 ∧ stepR (some r) k 1 = none) := by
    intro r h
    by_cases e : r.1 = k
    · exact .inl ⟨e, if_pos e⟩
    · have es : stepR (some r) k 1 = if 0 < r.2 - 1 then some (r.1, r.2 - 1) else if r.2 - 1 = 0 then none else some (k, -(r.2 - 1)) := if_neg e
      by_cases g : 2 ≤ r.2
      · rw [if_pos (by omega)] at es
        exact .inr (.inl ⟨e, g, es⟩)
      · rw [if_neg (by omega), if_pos (by omega)] at es
        exact .inr (.inr ⟨e, by omega, es⟩)
  cases a with
  | none =>
    cases b with
    | none =>
      rw [sn, dist_ss, if_pos rfl, dist_nn]
      left
      split <;> omega
    | some s =>
      have h2 := pb s rfl
      rcases sp s h2 with ⟨e, es⟩ | ⟨e, g, es⟩ | ⟨e, g, es⟩
      · rw [sn, es, dist_ss, dist_ns, if_pos rfl]
        left
        show (if 1 - (s.2 + 1) < 0 then -(1 - (s.2 + 1)) else 1 - (s.2 + 1)) = s.2
        split <;> omega
      · rw [sn, es, dist_ss, dist_ns, if_neg fun z => e z.symm]
        left
        show 1 + (s.2 - 1) = s.2
        omega
      · rw [sn, es, dist_sn, dist_ns]
        left
        show 1 = s.2
        omega
  | some r =>
    have h1 := pa r rfl
    cases b with
    | none =>
      rcases sp r h1 with ⟨e, es⟩ | ⟨e, g, es⟩ | ⟨e, g, es⟩
      · rw [sn, es, dist_ss, dist_sn, if_pos rfl]
        left
        show (if r.2 + 1 - 1 < 0 then -(r.2 + 1 - 1) else r.2 + 1 - 1) = r.2
        split <;> omega
      · rw [sn, es, dist_ss, dist_sn, if_neg e]
        left
        show r.2 - 1 + 1 = r.2
        omega
      · rw [sn, es, dist_ns, dist_sn]
        left
        show 1 = r.2
        omega
    | some s =>
      have h2 := pb s rfl
      rw [dist_ss r s]
      rcases sp r h1 with ⟨e, es⟩ | ⟨e, g, es⟩ | ⟨e, g, es⟩
      · rcases sp s h2 with ⟨f, fs⟩ | ⟨f, j, fs⟩ | ⟨f, j, fs⟩
        · rw [es, fs, dist_ss, if_pos rfl, if_pos (e.trans f.symm)]
          left
          show (if r.2 + 1 - (s.2 + 1) < 0 then -(r.2 + 1 - (s.2 + 1)) else r.2 + 1 - (s.2 + 1)) = _
          split <;> split <;> omega
        · rw [es, fs, dist_ss, if_neg (fun z => f z.symm), if_neg (fun z => f (z.symm.trans e))]
          left
          show r.2 + 1 + (s.2 - 1) = _
          omega
        · rw [es, fs, dist_sn, if_neg (fun z => f (z.symm.trans e))]
          left
          show r.2 + 1 = _
          omega
      · rcases sp s h2 with ⟨f, fs⟩ | ⟨f, j, fs⟩ | ⟨f, j, fs⟩
        · rw [es, fs, dist_ss, if_neg e, if_neg (fun z => e (z.trans f))]
          left
          show r.2 - 1 + (s.2 + 1) = _
          omega
        · rw [es, fs, dist_ss]
          show (if r.1 = s.1 then (if r.2 - 1 - (s.2 - 1) < 0 then -(r.2 - 1 - (s.2 - 1)) else r.2 - 1 - (s.2 - 1)) else r.2 - 1 + (s.2 - 1)) = _ ∨ (if r.1 = s.1 then (if r.2 - 1 - (s.2 - 1) < 0 then -(r.2 - 1 - (s.2 - 1)) else r.2 - 1 - (s.2 - 1)) else r.2 - 1 + (s.2 - 1)) = _
          by_cases u : r.1 = s.1
          · rw [if_pos u, if_pos u]
            left
            split <;> split <;> omega
          · rw [if_neg u, if_neg u]
            right
            omega
        · rw [es, fs, dist_sn]
          show r.2 - 1 = _ ∨ r.2 - 1 = _
          by_cases u : r.1 = s.1
          · rw [if_pos u]
            left
            split <;> omega
          · rw [if_neg u]
            right
            omega
      · rcases sp s h2 with ⟨f, fs⟩ | ⟨f, j, fs⟩ | ⟨f, j, fs⟩
        · rw [es, fs, dist_ns, if_neg (fun z => e (z.trans f))]
          left
          show s.2 + 1 = _
          omega
        · rw [es, fs, dist_ns]
          show s.2 - 1 = _ ∨ s.2 - 1 = _
          by_cases u : r.1 = s.1
          · rw [if_pos u]
            left
            split <;> omega
          · rw [if_neg u]
            right
            omega
        · rw [es, fs, dist_nn]
          by_cases u : r.1 = s.1
          · rw [if_pos u]
            left
            split <;> omega
          · rw [if_neg u]
            right
            omega
section
variable {P : Program} {w : World} {K : PySem.W.Frag} {mg : Str → Option Value} {base : Heap}
/-! kind_of: slots 0:state -/
abbrev s_kind_of : Stmt := topS 25
theorem sc_kind_of : FnScope ["state"] ["state"] (defScope s_kind_of) := ⟨rfl, rfl, rfl, by decide +kernel, rfl, by decide +kernel, by decide +kernel⟩
def sp_kind_of : Sp := fun vs H Q _ => ∃ (v : V) (st : Option Run), vs = [v] ∧ StV H v st ∧ Q (kdV st) H
theorem ok_kind_of (D : Df K mg "kind_of" s_kind_of) : Has P w K mg base 1 "kind_of" ["state"] sp_kind_of := by
  refine has_of D sc_kind_of (fun _ _ _ _ _ _ us hl => match us, hl with | [_], _ => rfl) (fun vs H Q E h => ?_) (fun f cdv A outer s₀ H vs Q E hr h => ?_)
  · obtain ⟨a, rs, rfl, _⟩ := h
    rfl
  · obtain ⟨v, st, rfl, hv, q⟩ := h
    refine ⟨_, (pss_one (ps_ret (pe_ifExp (pt_cmpR op_isN (pv 0) pe_non (nomark _)) pe_non (pe_ix ix_tup (pv 0) pe_int (fun _ _ => rfl))))), ?_⟩
    cases st with
    | none =>
      cases hv
      exact ⟨_, rfl, rfl, _, rfl, iteP rfl q⟩
    | some r =>
      obtain ⟨t, rfl, ht⟩ := hv
      exact ⟨_, rfl, rfl, _, rfl, iteN rfl ⟨_, rfl, t, _, 0, _, rfl, rfl, .of ht, at0, q⟩⟩
theorem scal_kd (a b : Option Run) : scal (kdV a) (kdV b) = true := by
  cases a <;> cases b <;> rfl
end
end UP

set_option Elab.async false
set_option linter.all false
set_option maxRecDepth 100000
set_option maxHeartbeats 4000000
namespace UP
open PySem PySem.Spec PyProof.Rows L2
theorem RB.rung {p : Addr} {H H' : Hp} {v : V} {r : Run} (b : RB p H H') (z : Reel H p) (h : RunG H v r) : RunG H' v r := by
  obtain ⟨t, e, h⟩ := h
  obtain ⟨_, _, _, _, _, _, hp, _⟩ := z
  refine ⟨t, e, h.elim (fun y => .inl (b.but _ _ (ne_of y hp (by intro q; cases q)) y)) (fun y => .inr (b.but _ _ (ne_of y hp (by intro q; cases q)) y))⟩
theorem RB.stg {p : Addr} {H H' : Hp} {v : V} {st : Option Run} (b : RB p H H') (z : Reel H p) (h : StG H v st) : StG H' v st := by
  cases st with
  | none => exact h
  | some r => exact b.rung z h
theorem stOk_step {a : Option Run} {k : Str} (h : StOk a) (kk : KindOk k) : StOk (stepR a k 1) := by
  intro r e
  have p := stepR_pos (k := k) (c := 1) (fun r e => (h r e).2) (by decide) r e
  refine ⟨?_, p⟩
  cases a with
  | none =>
    cases e
    exact kk
  | some s =>
    have hs := h s rfl
    by_cases e1 : s.1 = k
    · rw [show stepR (some s) k 1 = some (k, s.2 + 1) from if_pos e1] at e
      cases e
      exact kk
    · rw [show stepR (some s) k 1 = if 0 < s.2 - 1 then some (s.1, s.2 - 1) else if s.2 - 1 = 0 then none else some (k, -(s.2 - 1)) from if_neg e1] at e
      split at e
      · cases e
        exact hs.1
      · split at e
        · cases e
        · cases e
          exact kk
def dOt : Option Run → PyData
  | none => .none
  | some r => dRun r
theorem dp_o {K : PySem.W.Frag} {H : Hp} {v : V} {st : Option Run} (h : StV H v st) : Dp K H v (dOt st) := by
  cases st with
  | none =>
    cases h
    exact .non
  | some r => exact dp_run h
theorem shaped_o {st : Option Run} (h : StOk st) : SeqAt.shaped (dOt st) = true := by
  cases st with
  | none => decide
  | some r => exact shaped_run (h r rfl).1
theorem eqv_o (a b : Option Run) : PyData.eqv (dOt a) (dOt b) = decide (a = b) := by
  cases a with
  | none =>
    cases b with
    | none => simp [dOt, PyData.eqv]
    | some s => simp [dOt, dRun, PyData.eqv]
  | some r =>
    cases b with
    | none => simp [dOt, dRun, PyData.eqv]
    | some s =>
      obtain ⟨r1, r2⟩ := r
      obtain ⟨s1, s2⟩ := s
      simp [dOt, dRun, PyData.eqv, PyData.eqvAll]
      rw [Bool.eq_iff_iff]
      simp
theorem dps_stN {K : PySem.W.Frag} {H : Hp} {v : V} {st : Option Run} (h : StG H v st) (k : ∀ r, st = some r → KindOk r.1 ∧ r.2.natAbs < 10 ^ 60) : ∃ d, DpS K H v d ∧ Nice 404 1 d := by
  cases st with
  | none =>
    cases h
    exact ⟨.none, fun _ _ => .non, nice_none.mono (by decide) (by decide)⟩
  | some r => exact dps_run (K := K) h (k r rfl).1 (k r rfl).2
theorem nice_il {w : Nat} {l : List Int} (h : ∀ x ∈ l, x.natAbs < 10 ^ 60) (hw : 202 * l.length ≤ w) : Nice w 1 (.list (l.map PyData.int)) := by
  have := nice_list (w := 201) (n := 0) (ds := l.map PyData.int) fun d hd => by
    obtain ⟨x, hx, rfl⟩ := List.mem_map.mp hd
    exact nice_int (h x hx)
  exact this.mono (by rw [List.length_map]; omega) (Nat.le_refl _)
theorem dist_bd {a b : Option Run} (pa : PosO a) (pb : PosO b) {m : Int} (ha : ∀ r, a = some r → r.2 ≤ m) (hb : ∀ r, b = some r → r.2 ≤ m) (m0 : 0 ≤ m) : 0 ≤ distR a b ∧ distR a b ≤ 2 * m := by
  cases a with
  | none =>
    cases b with
    | none => rw [dist_nn]; omega
    | some s =>
      have := pb s rfl
      have := hb s rfl
      rw [dist_ns]; omega
  | some r =>
    have h1 := pa r rfl
    have h2 := ha r rfl
    cases b with
    | none => rw [dist_sn]; omega
    | some s =>
      have := pb s rfl
      have := hb s rfl
      rw [dist_ss]
      split
      · split <;> omega
      · omega
theorem p39 : (10 : Int) ^ ((39 : Int).toNat) = 1000000000000000000000000000000000000000 := by decide +kernel
end UP

set_option Elab.async false
set_option linter.all false
set_option maxRecDepth 100000
set_option maxHeartbeats 4000000
namespace UP
open PySem PySem.Spec PyProof.Rows L2
/-! ### meetings -/
def MW (a b : Option Run) (k : Str) (c : Int) : Prop := kdV a ≠ .str k ∧ kdV b ≠ .str k ∧ numR a = numR b ∧ numR b ≤ c
instance (a b : Option Run) (k : Str) (c : Int) : Decidable (MW a b k c) := by
  unfold MW
  infer_instance
theorem MW.comm {a b : Option Run} {k : Str} {c : Int} : MW a b k c ↔ MW b a k c := by
  unfold MW
  exact ⟨fun h => ⟨h.2.1, h.1, h.2.2.1.symm, by omega⟩, fun h => ⟨h.2.1, h.1, h.2.2.1.symm, by omega⟩⟩
theorem mw_nn {k : Str} {c : Int} : MW none none k c ↔ 0 ≤ c := ⟨fun h => h.2.2.2, fun h => ⟨by (intro z; cases z), by (intro z; cases z), rfl, h⟩⟩
theorem mw_ns {s : Run} {k : Str} {c : Int} : MW none (some s) k c ↔ s.1 ≠ k ∧ 0 = s.2 ∧ s.2 ≤ c := ⟨fun h => ⟨fun z => h.2.1 (by show V.str s.1 = V.str k; rw [z]), h.2.2.1, h.2.2.2⟩, fun h => ⟨by (intro z; cases z), fun z => h.1 (V.str.inj z), h.2.1, h.2.2⟩⟩
theorem mw_sn {s : Run} {k : Str} {c : Int} : MW (some s) none k c ↔ s.1 ≠ k ∧ s.2 = 0 ∧ 0 ≤ c := ⟨fun h => ⟨fun z => h.1 (by show V.str s.1 = V.str k; rw [z]), h.2.2.1, h.2.2.2⟩, fun h => ⟨fun z => h.1 (V.str.inj z), by (intro z; cases z), h.2.1, h.2.2⟩⟩
theorem mw_ss {r s : Run} {k : Str} {c : Int} : MW (some r) (some s) k c ↔ r.1 ≠ k ∧ s.1 ≠ k ∧ r.2 = s.2 ∧ s.2 ≤ c := ⟨fun h => ⟨fun z => h.1 (by show V.str r.1 = V.str k; rw [z]), fun z => h.2.1 (by show V.str s.1 = V.str k; rw [z]), h.2.2.1, h.2.2.2⟩, fun h => ⟨fun z => h.1 (V.str.inj z), fun z => h.2.1 (V.str.inj z), h.2.2⟩⟩
theorem step_cases {r : Run} {k : Str} {c : Int} : (r.1 = k ∧ stepR (some r) k c = some (k, r.2 + c)) ∨ (r.1 ≠ k ∧ c < r.2 ∧ stepR (some r) k c = some (r.1, r.2 - c)) ∨ (r.1 ≠ k ∧ r.2 = c ∧ stepR (some r) k c = none) ∨ (r.1 ≠ k ∧ r.2 < c ∧ stepR (some r) k c = some (k, c - r.2)) := by
  by_cases e : r.1 = k
  · exact .inl ⟨e, if_pos e⟩
  · have es : stepR (some r) k c = if 0 < r.2 - c then some (r.1, r.2 - c) else if r.2 - c = 0 then none else some (k, -(r.2 - c)) := if_neg e
    by_cases g : c < r.2
    · rw [if_pos (by omega)] at es
      exact .inr (.inl ⟨e, g, es⟩)
    · by_cases h : r.2 = c
      · rw [if_neg (by omega), if_pos (by omega)] at es
        exact .inr (.inr (.inl ⟨e, h, es⟩))
      · rw [if_neg (by omega), if_neg (by omega), show -(r.2 - c) = c - r.2 by omega] at es
        exact .inr (.inr (.inr ⟨e, by omega, es⟩))
theorem some_pair {a b : Str} {m n : Int} : (some (a, m) : Option Run) = some (b, n) ↔ a = b ∧ m = n := ⟨fun h => by cases h; exact ⟨rfl, rfl⟩, fun h => by rw [h.1, h.2]⟩
/-- within a run two different states become equal only together with the last of both -/
theorem meet_iff {a b : Option Run} {k : Str} {c : Int} (pa : PosO a) (pb : PosO b) (ne : a ≠ b) (c1 : 1 ≤ c) : stepR a k c = stepR b k c ↔ MW a b k c := by
  cases a with
  | none =>
    cases b with
    | none => exact absurd rfl ne
    | some s =>
      have h2 := pb s rfl
      rw [mw_ns, show stepR none k c = some (k, c) from rfl]
      rcases step_cases (r := s) (k := k) (c := c) with ⟨e, es⟩ | ⟨e, g, es⟩ | ⟨e, g, es⟩ | ⟨e, g, es⟩
      · rw [es, some_pair]
        exact ⟨fun z => (by omega), fun z => by omega⟩
      · rw [es, some_pair]
        exact ⟨fun z => absurd z.1.symm e, fun z => by omega⟩
      · rw [es]
        exact ⟨fun z => (by cases z), fun z => by omega⟩
      · rw [es, some_pair]
        exact ⟨fun z => (by omega), fun z => by omega⟩
  | some r =>
    have h1 := pa r rfl
    cases b with
    | none =>
      rw [mw_sn, show stepR none k c = some (k, c) from rfl]
      rcases step_cases (r := r) (k := k) (c := c) with ⟨e, es⟩ | ⟨e, g, es⟩ | ⟨e, g, es⟩ | ⟨e, g, es⟩
      · rw [es, some_pair]
        exact ⟨fun z => (by omega), fun z => by omega⟩
      · rw [es, some_pair]
        exact ⟨fun z => absurd z.1 e, fun z => by omega⟩
      · rw [es]
        exact ⟨fun z => (by cases z), fun z => by omega⟩
      · rw [es, some_pair]
        exact ⟨fun z => (by omega), fun z => by omega⟩
    | some s =>
      have h2 := pb s rfl
      have ne2 : ¬ (r.1 = s.1 ∧ r.2 = s.2) := fun z => ne (by rw [show r = s from Prod.ext z.1 z.2])
      rw [mw_ss]
      rcases step_cases (r := r) (k := k) (c := c) with ⟨e, es⟩ | ⟨e, g, es⟩ | ⟨e, g, es⟩ | ⟨e, g, es⟩
      · rcases step_cases (r := s) (k := k) (c := c) with ⟨f, fs⟩ | ⟨f, j, fs⟩ | ⟨f, j, fs⟩ | ⟨f, j, fs⟩
        · rw [es, fs, some_pair]
          exact ⟨fun z => absurd ⟨e.trans f.symm, by omega⟩ ne2, fun z => absurd e z.1⟩
        · rw [es, fs, some_pair]
          exact ⟨fun z => absurd z.1.symm f, fun z => absurd e z.1⟩
        · rw [es, fs]
          exact ⟨fun z => (by cases z), fun z => absurd e z.1⟩
        · rw [es, fs, some_pair]
          exact ⟨fun z => (by omega), fun z => absurd e z.1⟩
      · rcases step_cases (r := s) (k := k) (c := c) with ⟨f, fs⟩ | ⟨f, j, fs⟩ | ⟨f, j, fs⟩ | ⟨f, j, fs⟩
        · rw [es, fs, some_pair]
          exact ⟨fun z => absurd z.1 e, fun z => absurd f z.2.1⟩
        · rw [es, fs, some_pair]
          exact ⟨fun z => absurd ⟨z.1, by omega⟩ ne2, fun z => by omega⟩
        · rw [es, fs]
          exact ⟨fun z => (by cases z), fun z => by omega⟩
        · rw [es, fs, some_pair]
          exact ⟨fun z => absurd z.1 e, fun z => by omega⟩
      · rcases step_cases (r := s) (k := k) (c := c) with ⟨f, fs⟩ | ⟨f, j, fs⟩ | ⟨f, j, fs⟩ | ⟨f, j, fs⟩
        · rw [es, fs]
          exact ⟨fun z => (by cases z), fun z => absurd f z.2.1⟩
        · rw [es, fs]
          exact ⟨fun z => (by cases z), fun z => by omega⟩
        · rw [es, fs]
          exact ⟨fun _ => ⟨e, f, by omega, by omega⟩, fun _ => rfl⟩
        · rw [es, fs]
          exact ⟨fun z => (by cases z), fun z => by omega⟩
      · rcases step_cases (r := s) (k := k) (c := c) with ⟨f, fs⟩ | ⟨f, j, fs⟩ | ⟨f, j, fs⟩ | ⟨f, j, fs⟩
        · rw [es, fs, some_pair]
          exact ⟨fun z => (by omega), fun z => absurd f z.2.1⟩
        · rw [es, fs, some_pair]
          exact ⟨fun z => absurd z.1.symm f, fun z => by omega⟩
        · rw [es, fs]
          exact ⟨fun z => (by cases z), fun z => by omega⟩
        · rw [es, fs, some_pair]
          exact ⟨fun z => ⟨e, f, by omega, by omega⟩, fun z => ⟨rfl, by omega⟩⟩
/-- the moment, run by run; the states are different at the beginning -/
def mgR : List Run → Option Run → Option Run → Int → Option Int
  | [], _, _, _ => none
  | r :: t, a, b, s => if MW a b r.1 r.2 then some (s + numR a) else mgR t (stepR a r.1 r.2) (stepR b r.1 r.2) (s + r.2)
def mmR (rs : List Run) (a b : Option Run) : Option Int := if a = b then some 0 else mgR rs a b 0
theorem mg_comm : ∀ (rs : List Run) (a b : Option Run) (s : Int), mgR rs a b s = mgR rs b a s
  | [], _, _, _ => rfl
  | r :: t, a, b, s => by
    show (if MW a b r.1 r.2 then some (s + numR a) else mgR t (stepR a r.1 r.2) (stepR b r.1 r.2) (s + r.2)) = (if MW b a r.1 r.2 then some (s + numR b) else mgR t (stepR b r.1 r.2) (stepR a r.1 r.2) (s + r.2))
    by_cases h : MW a b r.1 r.2
    · rw [if_pos h, if_pos (MW.comm.mp h), h.2.2.1]
    · rw [if_neg h, if_neg fun z => h (MW.comm.mp z), mg_comm t]
theorem mm_comm (rs : List Run) (a b : Option Run) : mmR rs a b = mmR rs b a := by
  unfold mmR
  by_cases h : a = b
  · rw [if_pos h, if_pos h.symm]
  · rw [if_neg h, if_neg fun z => h z.symm, mg_comm]
theorem lenR_nn {rs : List Run} (k : ∀ r ∈ rs, 1 ≤ r.2) : 0 ≤ lenR rs := by
  rw [← len_it rs k]
  exact Int.natCast_nonneg _
theorem num_nn {a : Option Run} (p : PosO a) : 0 ≤ numR a := by
  cases a with
  | none => exact Int.le_refl _
  | some r =>
    have := p r rfl
    show 0 ≤ r.2
    omega
theorem mg_bd : ∀ (rs : List Run) (a b : Option Run) (s m : Int), (∀ r ∈ rs, 1 ≤ r.2) → PosO a → PosO b → mgR rs a b s = some m → s ≤ m ∧ m ≤ s + lenR rs
  | [], _, _, _, _, _, _, _, h => by cases h
  | r :: t, a, b, s, m, k, pa, pb, h => by
    have c1 := k r (List.mem_cons_self ..)
    have kt : ∀ x ∈ t, 1 ≤ x.2 := fun x hx => k x (List.mem_cons_of_mem _ hx)
    have lt : 0 ≤ lenR t := lenR_nn kt
    have h : (if MW a b r.1 r.2 then some (s + numR a) else mgR t (stepR a r.1 r.2) (stepR b r.1 r.2) (s + r.2)) = some m := h
    rw [lenR_cons]
    by_cases g : MW a b r.1 r.2
    · rw [if_pos g] at h
      have h := Option.some.inj h
      have := num_nn pa
      have := g.2.2
      omega
    · rw [if_neg g] at h
      have := mg_bd t _ _ _ m kt (stepR_pos pa c1) (stepR_pos pb c1) h
      omega
theorem mg_end : ∀ (rs : List Run) (a b : Option Run) (s m : Int), (∀ r ∈ rs, 1 ≤ r.2) → PosO a → PosO b → a ≠ b → mgR rs a b s = some m → stR rs a = stR rs b
  | [], _, _, _, _, _, _, _, _, h => by cases h
  | r :: t, a, b, s, m, k, pa, pb, ne, h => by
    have c1 := k r (List.mem_cons_self ..)
    have kt : ∀ x ∈ t, 1 ≤ x.2 := fun x hx => k x (List.mem_cons_of_mem _ hx)
    have h : (if MW a b r.1 r.2 then some (s + numR a) else mgR t (stepR a r.1 r.2) (stepR b r.1 r.2) (s + r.2)) = some m := h
    rw [stR_cons, stR_cons]
    by_cases g : MW a b r.1 r.2
    · rw [(meet_iff pa pb ne c1).mpr g]
    · rw [if_neg g] at h
      exact mg_end t _ _ _ m kt (stepR_pos pa c1) (stepR_pos pb c1) (fun z => g ((meet_iff pa pb ne c1).mp z)) h
theorem mm_end {rs : List Run} {a b : Option Run} {m : Int} (k : ∀ r ∈ rs, 1 ≤ r.2) (pa : PosO a) (pb : PosO b) (h : mmR rs a b = some m) : stR rs a = stR rs b := by
  unfold mmR at h
  by_cases e : a = b
  · rw [e]
  · rw [if_neg e] at h
    exact mg_end rs a b 0 m k pa pb e h
theorem mm_bd {rs : List Run} {a b : Option Run} {m : Int} (k : ∀ r ∈ rs, 1 ≤ r.2) (pa : PosO a) (pb : PosO b) (h : mmR rs a b = some m) : 0 ≤ m ∧ m ≤ lenR rs := by
  unfold mmR at h
  by_cases e : a = b
  · rw [if_pos e] at h
    cases h
    exact ⟨Int.le_refl _, lenR_nn k⟩
  · rw [if_neg e] at h
    have := mg_bd rs a b 0 m k pa pb h
    omega
/-- item by item -/
def fewI : List Str → Option Run → Option Run → Int → Option Int
  | [], a, b, m => if a = b then some m else none
  | k :: t, a, b, m => if a = b then some m else fewI t (stepR a k 1) (stepR b k 1) (m + 1)
theorem few_eq {l : List Str} {a : Option Run} {m : Int} : fewI l a a m = some m := by
  cases l with
  | nil => exact if_pos rfl
  | cons k t => exact if_pos rfl
theorem few_run : ∀ (c : Nat) (k : Str) (rest : List Str) (a b : Option Run) (m : Int), PosO a → PosO b → a ≠ b → fewI (List.replicate (c + 1) k ++ rest) a b m = if MW a b k ((c : Int) + 1) then some (m + numR a) else fewI rest (stepR a k ((c : Int) + 1)) (stepR b k ((c : Int) + 1)) (m + ((c : Int) + 1))
  | c, k, rest, a, b, m, pa, pb, ne => by
    have h1 : fewI (List.replicate (c + 1) k ++ rest) a b m = fewI (List.replicate c k ++ rest) (stepR a k 1) (stepR b k 1) (m + 1) := by
      rw [List.replicate_succ]
      exact if_neg ne
    have pa1 := stepR_pos (k := k) (c := 1) pa (by decide)
    have pb1 := stepR_pos (k := k) (c := 1) pb (by decide)
    have i1 := meet_iff (k := k) (c := 1) pa pb ne (by decide)
    rw [h1]
    by_cases e : stepR a k 1 = stepR b k 1
    · have w := i1.mp e
      have w2 : MW a b k ((c : Int) + 1) := ⟨w.1, w.2.1, w.2.2.1, by have := w.2.2.2; omega⟩
      have na : numR a = 1 := by
        have h3 := num_nn pa
        have h4 := w.2.2
        rcases (show numR a = 1 ∨ numR a = 0 by omega) with z | z
        · exact z
        · exfalso
          have an : a = none := by
            cases a with
            | none => rfl
            | some r =>
              have := pa r rfl
              have z : r.2 = 0 := z
              omega
          have bn : b = none := by
            cases b with
            | none => rfl
            | some r =>
              have := pb r rfl
              have z2 : r.2 = numR (some r) := rfl
              omega
          exact ne (an.trans bn.symm)
      rw [e, few_eq, if_pos w2, na]
    · cases c with
      | zero =>
        have w2 : ¬ MW a b k (((0 : Nat) : Int) + 1) := fun z => e (i1.mpr z)
        rw [if_neg w2]
        rfl
      | succ c =>
        have ih := few_run c k rest (stepR a k 1) (stepR b k 1) (m + 1) pa1 pb1 e
        rw [ih]
        have ea := step_step (s := a) (k := k) (c := (c : Int) + 1) pa (by omega)
        have eb := step_step (s := b) (k := k) (c := (c : Int) + 1) pb (by omega)
        have cc : (1 : Int) + ((c : Int) + 1) = (((c + 1 : Nat) : Int) + 1) := by omega
        rw [cc] at ea eb
        have iff1 := meet_iff (k := k) (c := (c : Int) + 1) pa1 pb1 e (by omega)
        have iff2 := meet_iff (k := k) (c := ((c + 1 : Nat) : Int) + 1) pa pb ne (by omega)
        rw [ea, eb] at iff1
        by_cases g : MW a b k (((c + 1 : Nat) : Int) + 1)
        · have g1 := iff1.mp (iff2.mpr g)
          rw [if_pos g, if_pos g1]
          congr 1
          cases a with
          | none =>
            exfalso
            have := g.2.2.1
            cases b with
            | none => exact ne rfl
            | some s =>
              have h2 := pb s rfl
              have : (0 : Int) = s.2 := this
              omega
          | some r =>
            have rk : r.1 ≠ k := fun z => g.1 (by show V.str r.1 = V.str k; rw [z])
            rcases step_cases (r := r) (k := k) (c := 1) with ⟨f, fs⟩ | ⟨f, j, fs⟩ | ⟨f, j, fs⟩ | ⟨f, j, fs⟩
            · exact absurd f rk
            · rw [fs]
              show m + 1 + (r.2 - 1) = m + r.2
              omega
            · exfalso
              have gb := g.2.2.1
              cases b with
              | none =>
                have gb : r.2 = 0 := gb
                omega
              | some s =>
                have sk : s.1 ≠ k := fun z => g.2.1 (by show V.str s.1 = V.str k; rw [z])
                have gb : r.2 = s.2 := gb
                rcases step_cases (r := s) (k := k) (c := 1) with ⟨u, us⟩ | ⟨u, v, us⟩ | ⟨u, v, us⟩ | ⟨u, v, us⟩
                · exact sk u
                · omega
                · exact e (by rw [fs, us])
                · omega
            · have := pa r rfl
              omega
        · have g1 : ¬ MW (stepR a k 1) (stepR b k 1) k ((c : Int) + 1) := fun z => g (iff2.mp (iff1.mpr z))
          rw [if_neg g, if_neg g1, ea, eb, show m + 1 + ((c : Int) + 1) = m + (((c + 1 : Nat) : Int) + 1) by omega]
theorem few_mg : ∀ (rs : List Run) (a b : Option Run) (m : Int), (∀ r ∈ rs, 1 ≤ r.2) → PosO a → PosO b → a ≠ b → fewI (itR rs) a b m = mgR rs a b m
  | [], _, _, _, _, _, _, ne => if_neg ne
  | r :: t, a, b, m, k, pa, pb, ne => by
    have c1 := k r (List.mem_cons_self ..)
    have kt : ∀ x ∈ t, 1 ≤ x.2 := fun x hx => k x (List.mem_cons_of_mem _ hx)
    obtain ⟨c, hc⟩ : ∃ c : Nat, r.2.toNat = c + 1 := ⟨r.2.toNat - 1, by omega⟩
    have er : ((c : Int) + 1) = r.2 := by omega
    have e : itR (r :: t) = List.replicate r.2.toNat r.1 ++ itR t := rfl
    rw [e, hc, few_run c r.1 (itR t) a b m pa pb ne, er]
    show _ = (if MW a b r.1 r.2 then some (m + numR a) else mgR t (stepR a r.1 r.2) (stepR b r.1 r.2) (m + r.2))
    by_cases g : MW a b r.1 r.2
    · rw [if_pos g, if_pos g]
    · rw [if_neg g, if_neg g]
      exact few_mg t _ _ _ kt (stepR_pos pa c1) (stepR_pos pb c1) (fun z => g ((meet_iff pa pb ne c1).mp z))
theorem few_mm {rs : List Run} {a b : Option Run} (k : ∀ r ∈ rs, 1 ≤ r.2) (pa : PosO a) (pb : PosO b) : fewI (itR rs) a b 0 = mmR rs a b := by
  unfold mmR
  by_cases e : a = b
  · rw [if_pos e, e, few_eq]
  · rw [if_neg e]
    exact few_mg rs a b 0 k pa pb e
def oV : Option Int → V
  | none => .non
  | some i => .int i
section
variable {P : Program} {w : World} {K : PySem.W.Frag} {mg : Str → Option Value} {base : Heap}
end
end UP

set_option Elab.async false
set_option linter.all false
set_option maxRecDepth 100000
set_option maxHeartbeats 4000000
namespace UP
open PySem PySem.Spec PyProof.Rows L2
theorem Reel.runs_ne {H : Hp} {p a : Addr} {rs : List Run} (z : Reel H p) (h : Runs H a rs) : a ≠ p := by
  obtain ⟨xs, e, hp⟩ := h
  obtain ⟨g, c, gs, cs, n, s, hs, _⟩ := z
  refine ne_of e hs fun q => ?_
  have q := HO.lst.inj q
  subst q
  cases hp with
  | cons _ hp =>
  cases hp with
  | cons _ hp =>
  cases hp with
  | cons h _ =>
    obtain ⟨t, e, _⟩ := h
    cases e
theorem RB.runs {p a : Addr} {H H' : Hp} {rs : List Run} (b : RB p H H') (z : Reel H p) (h : Runs H a rs) : Runs H' a rs := by
  have n := z.runs_ne h
  obtain ⟨xs, e, hp⟩ := h
  exact ⟨xs, b.but _ _ n e, Paired.imp (fun _ _ => b.run z) hp⟩
theorem altR_snoc {l : List Run} {x : Run} (h : Alt l) (k : ∀ y, l[l.length - 1]? = some y → y.1 ≠ x.1) : Alt (l ++ [x]) := alt_snoc h k
section
variable {P : Program} {w : World} {K : PySem.W.Frag} {mg : Str → Option Value} {base : Heap}
/-! _law_runs: slots 0:reel 1:names 2:many 3:longest 4:found 5:turn 6:kind -/
abbrev s_law_runs : Stmt := topS 58
theorem sc_law_runs : FnScope ["reel", "names", "many", "longest", "found", "turn", "kind"] ["reel", "names", "many", "longest"] (defScope s_law_runs) := ⟨rfl, rfl, rfl, by decide +kernel, rfl, by decide +kernel, by decide +kernel⟩
def sp_law_runs : Sp := fun vs H Q _ => ∃ (p l : Addr) (ks : List Str) (m g : Int), vs = [.ref p, .ref l, .int m, .int g] ∧ Reel H p ∧ H l = some (.lst (ks.map V.str)) ∧ 0 < ks.length ∧ ks.length ≤ 13 ∧ (∀ s ∈ ks, KindOk s) ∧ 0 ≤ m ∧ m ≤ 400 ∧ 1 ≤ g ∧ g ≤ 1000000000000000000000000000000 ∧
  ∀ H' L rs, RB p H H' → Reel H' p → Off H' p L → H L = none → Runs H' L rs → SeqOk rs → (rs.length : Int) ≤ m → (∀ r ∈ rs, r.2 ≤ g) → Q (.ref L) H'
theorem ok_law_runs (D : Df K mg "_law_runs" s_law_runs) (T : Tx mg) (G_law_draw : Has P w K mg base 1 "_law_draw" ["reel", "many"] sp_law_draw) : Has P w K mg base 2 "_law_runs" ["reel", "names", "many", "longest"] sp_law_runs := by
  refine has_of D sc_law_runs (fun _ _ _ _ _ _ us hl => match us, hl with | [_, _, _, _], _ => rfl) (fun vs H Q E h => ?_) (fun f cdv A outer s₀ H vs Q E hr h => ?_)
  · obtain ⟨_, _, _, _, _, rfl, _⟩ := h
    rfl
  · obtain ⟨p, l, ks, m, g, rfl, z, hl, k1, k2, okk, m0, m4, g1, g2, q⟩ := h
    refine ⟨_, (pss_cons (ps_set (i := 4) sc_law_runs.nd rfl (by first | exact Or.inl rfl | exact Or.inr rfl) (pe_lst pa_nil))
    (pss_cons (ps_for PassesOwn.never rfl (pi_range1 (by rfl) T.n_range (pa_cons (pe_callH G_law_draw (hr.mono (by omega)) (by rfl) (pa_cons (pv 0) (pa_cons (pe_op op_add (pv 2) pe_int) pa_nil))) pa_nil)) (pg_name (i := 5) sc_law_runs.nd rfl (by first | exact Or.inl rfl | exact Or.inr rfl))
      (pss_cons (ps_set (i := 6) sc_law_runs.nd rfl (by first | exact Or.inl rfl | exact Or.inr rfl) (pe_ix ix_list (pv 1) (pe_callH G_law_draw (hr.mono (by omega)) (by rfl) (pa_cons (pv 0) (pa_cons (pe_callB call_len_seq (by rfl) T.n_len (by decide +kernel) (pa_cons (pv 1) pa_nil)) pa_nil))) (fun _ _ => rfl)))
    (pss_one (ps_if (PW.pt (pw_or (pt_cmpR (op_eqD hr.units) (pv 4) (pe_lst pa_nil) (nomark _)) (pw_or1 (pt_cmpR op_ne (pe_ix ix_tup (pe_ix ix_list (pv 4) (pe_un un_neg pe_int) (fun _ _ => rfl)) pe_int (fun _ _ => rfl)) (pv 6) (nomark _))))) (pss_one (ps_expr (pe_bm PySem.F.plainAttrs_list PySem.F.slot_list_append PySem.F.type_list_append mt_append (pv 4) (pa_cons (pe_tup (pa_cons (pv 6) (pa_cons (pe_op op_add pe_int (pe_callH G_law_draw (hr.mono (by omega)) (by rfl) (pa_cons (pv 0) (pa_cons (pv 3) pa_nil)))) pa_nil))) pa_nil)))) pss_nil))))
    (pss_one (ps_ret (pv 4))))), ?_⟩
    refine ⟨Nat.zero_le _, fun L nL => ?_⟩
    have nLp := z.ne nL
    have sL := same_upd (o := .lst []) nL
    refine ⟨_, rfl, _, rfl, _, _, rfl, rfl, p, _, rfl, z.same sL, (by show 1 ≤ m + 1; omega), (wide8 (by show 0 ≤ m + 1; omega) (by show m + 1 ≤ _; omega)), fun H1 r b1 z1 r0 r1 => ?_⟩
    have r1 : r < m + 1 := r1
    refine ⟨r, rfl, by omega, by omega, for_range (lo := 0) (n := r.toNat) (fun i σ H' => ∃ y5 y6 rs, σ = [some (.ref p), some (.ref l), some (.int m), some (.int g), some (.ref L), y5, y6] ∧ RB p H H' ∧ Reel H' p ∧ Off H' p L ∧ H' l = some (.lst (ks.map V.str)) ∧ Runs H' L rs ∧ rs.length ≤ i ∧ (∀ r ∈ rs, RunOk r ∧ r.2 ≤ g) ∧ Alt rs)
      ⟨none, none, [], rfl, (RB.of sL).trans b1, z1, b1.off _ _ upd_same ((z.off nL).upd nLp), b1.strs (z.same sL) (sL _ _ hl), ⟨[], b1.but _ _ nLp upd_same, .nil⟩, Nat.zero_le _, (fun r h => by cases h), (fun i x y h => by simp at h)⟩ (fun i σ H6 hi hP => ?_) (fun σ H6 hP => ?_)⟩
    · obtain ⟨y5, y6, rs, rfl, b6, z6, o6, hl6, hR, lr, okr, alt⟩ := hP
      refine ⟨_, rfl, _, rfl, _, rfl, l, _, rfl, .inl (.of hl6), p, _, rfl, z6, ?_, ?_, fun H7 r7 b7 z7 r70 r71 => ?_⟩
      · rw [List.length_map]
        omega
      · rw [List.length_map]
        exact wide8 (by omega) (by omega)
      rw [List.length_map] at r71
      have lt : r7.toNat < ks.length := by omega
      have hl7 := b7.strs z6 hl6
      have ek : (ks.map V.str)[r7.toNat]? = some (.str ks[r7.toNat]) := by
        rw [List.getElem?_map, List.getElem?_eq_getElem lt]
        rfl
      have kk : KindOk ks[r7.toNat] := okk _ (List.getElem_mem lt)
      generalize ks[r7.toNat] = kd at ek kk
      refine ⟨l, _, r7, _, rfl, rfl, .of hl7, atI_ofR r70 ek, ?_⟩
      have hR8 : Runs H7 L rs := b7.runs z6 hR
      have B8 := b6.trans b7
      have o8 : Off H7 p L := by
        obtain ⟨xs, hx, _⟩ := hR
        exact b7.off _ _ hx o6
      have okR : ∀ r ∈ rs, KindOk r.1 := fun r h => (okr r h).1.1
      clear b7 hR hl6 b6 z6 o6
      obtain ⟨xs, hx, hpr⟩ := hR8
      have lx : xs.length = rs.length := Paired.len hpr
      dsimp only
      refine if_by (fun b H9 => Same H7 H9 ∧ (b = true → ∀ y, rs[rs.length - 1]? = some y → y.1 ≠ kd)) (fun Q' k => ?_) (fun H9 hq => ?_) (fun H9 hq => ?_)
      · refine ⟨_, rfl, Nat.zero_le _, fun e ne => ?_⟩
        have se : Same H7 (upd H7 e (.lst [])) := same_upd ne
        refine ⟨.list (rs.map dRun), .list [], .lst (.of (se _ _ hx)) (dp_all (prs_same se hpr)), .lst (.of upd_same) .nil, shaped_runs okR, shaped_nil, _, rfl, ?_⟩
        rw [eqv_nil]
        cases hrs : rs with
        | nil => exact iteP rfl (k _ _ ⟨se, fun _ y hy => by rw [hrs] at hy; cases hy⟩)
        | cons r0 t0 =>
          refine iteN rfl ?_
          have hne : rs ≠ [] := by rw [hrs]; intro z; cases z
          have hlt : rs.length - 1 < rs.length := by
            have : 0 < rs.length := by rw [hrs]; exact Nat.succ_pos _
            omega
          obtain ⟨x, ex, hxv⟩ := Paired.at' hpr (List.getElem?_eq_getElem hlt)
          obtain ⟨tt, rfl, htt⟩ := RunV.same se hxv
          have exl : atI xs (-1) = some (.ref tt) := by
            have h1 : xs ≠ [] := fun z => by rw [z] at lx; rw [hrs] at lx; cases lx
            have h2 : xs = xs.dropLast ++ [xs.getLast h1] := (List.dropLast_concat_getLast h1).symm
            have h3 : xs.getLast h1 = .ref tt := by
              have := List.getLast?_eq_getElem? (l := xs)
              rw [lx, ex, List.getLast?_eq_some_getLast h1] at this
              exact Option.some.inj this
            rw [h2, h3]
            exact atI_last _ _
          refine ⟨_, rfl, 1, rfl, L, xs, -1, _, rfl, rfl, .of (se _ _ hx), exl, tt, _, 0, _, rfl, rfl, .of htt, at0, _, rfl, rfl, _, rfl, ?_⟩
          refine k _ _ ⟨se, fun hb y hy => ?_⟩
          rw [List.getElem?_eq_getElem hlt] at hy
          cases hy
          intro z
          rw [z] at hb
          simp at hb
      · obtain ⟨s9, ha⟩ := hq
        refine ⟨_, rfl, .inl ⟨rfl, _, SqL.of (s9 _ _ hx)⟩, _, rfl, _, rfl, _, rfl, p, g, rfl, z7.same s9, g1, wide8 (by omega) (by omega), fun H10 r10 b10 z10 r100 r101 => ⟨_, _, rfl, rfl, (by show 2 ≤ sizeLine; decide), fun n nn => ?_⟩⟩
        have hx10 := b10.but _ _ nLp (s9 _ _ hx)
        have hp10 : Paired (RunV H10) xs rs := Paired.imp (fun _ _ h => b10.run (z7.same s9) (h.same s9)) hpr
        have o10 := b10.off _ _ (s9 _ _ hx) (o8.same s9)
        have sn := same_upd (o := .tup [.str kd, .int (1 + r10)]) nn
        refine ⟨L, _, _, rfl, rfl, sn _ _ hx10, small (by omega), ?_⟩
        refine ⟨_, _, rs ++ [(kd, 1 + r10)], rfl, ((((B8.trans (RB.of s9)).trans b10).trans (RB.of sn)).grow nL (o10.same sn)), (z10.same sn).upd (o10.same sn), (o10.same sn).upd nLp, ?_, ⟨_, upd_same, Paired.app (prs_grow (sn _ _ hx10) (prs_same sn hp10)) (.cons (RunV.grow (sn _ _ hx10) ⟨n, rfl, upd_same⟩) .nil)⟩, ?_, ?_, altR_snoc alt (ha rfl)⟩
        · have nl : l ≠ L := ne_of_none hl nL
          rw [upd_ne nl]
          exact sn _ _ (b10.strs (z7.same s9) (s9 _ _ hl7))
        · rw [List.length_append]
          show rs.length + 1 ≤ i + 1
          omega
        · intro r hr
          rcases List.mem_append.mp hr with h | h
          · exact okr r h
          · rw [List.mem_singleton.mp h]
            exact ⟨⟨kk, by show 1 ≤ 1 + r10; omega, by show 1 + r10 ≤ _; omega⟩, by show 1 + r10 ≤ g; omega⟩
      · obtain ⟨s9, ha⟩ := hq
        exact ⟨_, _, rs, rfl, B8.trans (RB.of s9), z7.same s9, o8.same s9, s9 _ _ hl7, ⟨xs, s9 _ _ hx, prs_same s9 hpr⟩, by omega, okr, alt⟩
    · obtain ⟨y5, y6, rs, rfl, b6, z6, o6, hl6, hR, lr, okr, alt⟩ := hP
      exact ⟨_, rfl, q H6 L rs b6 z6 o6 nL hR ⟨by omega, fun r h => (okr r h).1, alt⟩ (by omega) (fun r h => (okr r h).2)⟩
/-! _law_end: slots 0:runs 1:state 2:kind 3:count -/
abbrev s_law_end : Stmt := topS 61
theorem sc_law_end : FnScope ["runs", "state", "kind", "count"] ["runs", "state"] (defScope s_law_end) := ⟨rfl, rfl, rfl, by decide +kernel, rfl, by decide +kernel, by decide +kernel⟩
def sp_law_end : Sp := fun vs H Q _ => ∃ (a : Addr) (rs : List Run) (v : V) (st : Option Run), vs = [.ref a, v] ∧ Runs H a rs ∧ (∀ r ∈ rs, 1 ≤ r.2) ∧ StV H v st ∧ ∀ H' v', Same H H' → StV H' v' (stR rs st) → Q v' H'
theorem ok_law_end (D : Df K mg "_law_end" s_law_end) (G_law_step : Has P w K mg base 1 "_law_step" ["state", "kind", "count"] sp_law_step) : Has P w K mg base 2 "_law_end" ["runs", "state"] sp_law_end := by
  refine has_of D sc_law_end (fun _ _ _ _ _ _ us hl => match us, hl with | [_, _], _ => rfl) (fun vs H Q E h => ?_) (fun f cdv A outer s₀ H vs Q E hr h => ?_)
  · obtain ⟨_, _, _, _, rfl, _⟩ := h
    rfl
  · obtain ⟨a, rs, v, st, rfl, ⟨xs, hx, hpr⟩, pos, hv, q⟩ := h
    have lx : xs.length = rs.length := Paired.len hpr
    refine ⟨_, (pss_cons (ps_for PassesOwn.never rfl (pi_list (pv 0)) (pg_tup rfl (pgs_cons (pg_name (i := 2) sc_law_end.nd rfl (by first | exact Or.inl rfl | exact Or.inr rfl)) (pgs_cons (pg_name (i := 3) sc_law_end.nd rfl (by first | exact Or.inl rfl | exact Or.inr rfl)) pgs_nil)))
      (pss_one (ps_set (i := 1) sc_law_end.nd rfl (by first | exact Or.inl rfl | exact Or.inr rfl) (pe_callH G_law_step (hr.mono (by omega)) (by rfl) (pa_cons (pv 1) (pa_cons (pv 2) (pa_cons (pv 3) pa_nil)))))))
    (pss_one (ps_ret (pv 1)))), ?_⟩
    refine ⟨_, rfl, a, rfl, ⟨xs, .of hx⟩, for_list (K := K) (a := a) (xs := xs) (fun i σ H' => ∃ u y2 y3, σ = [some (.ref a), some u, y2, y3] ∧ Same H H' ∧ StV H' u (stR (rs.take i) st))
      ⟨v, none, none, rfl, Same.refl _, hv⟩ (fun i σ H' _ hP => ?_) (fun i x σ H4 ex hP => ?_) (fun σ H4 hP => ?_)⟩
    · obtain ⟨_, _, _, _, sm, _⟩ := hP
      exact .of (sm _ _ hx)
    · obtain ⟨u, y2, y3, rfl, sm, hu⟩ := hP
      obtain ⟨r, er, hr1⟩ := Paired.at hpr ex
      obtain ⟨t, rfl, ht⟩ := RunV.same sm hr1
      have c1 := pos r (List.mem_of_getElem? er)
      refine ⟨t, _, rfl, .of ht, rfl, _, _, rfl, _, _, rfl, rfl, ?_⟩
      refine ⟨_, rfl, _, rfl, _, rfl, u, _, r.1, r.2, rfl, hu, c1, fun H5 w1 s5 hw1 => ⟨w1, _, _, rfl, sm.trans s5, ?_⟩⟩
      rw [take_snoc er, stR_snoc]
      exact hw1
    · obtain ⟨u, y2, y3, rfl, sm, hu⟩ := hP
      rw [lx, List.take_length] at hu
      exact ⟨_, rfl, q _ _ sm hu⟩
end
end UP

set_option Elab.async false
set_option linter.all false
set_option maxRecDepth 100000
set_option maxHeartbeats 4000000
namespace UP
open PySem PySem.Spec PyProof.Rows L2
theorem stOk_stepC {a : Option Run} {k : Str} {c : Int} (h : StOk a) (kk : KindOk k) (c1 : 1 ≤ c) : StOk (stepR a k c) := by
  intro r e
  have p := stepR_pos (k := k) (c := c) (fun r e => (h r e).2) c1 r e
  refine ⟨?_, p⟩
  cases a with
  | none =>
    cases e
    exact kk
  | some s =>
    have hs := h s rfl
    rcases step_cases (r := s) (k := k) (c := c) with ⟨_, es⟩ | ⟨_, _, es⟩ | ⟨_, _, es⟩ | ⟨_, _, es⟩
    · rw [es] at e
      cases e
      exact kk
    · rw [es] at e
      cases e
      exact hs.1
    · rw [es] at e
      cases e
    · rw [es] at e
      cases e
      exact kk
theorem MW.pos {a b : Option Run} {k : Str} {c : Int} (pa : PosO a) (pb : PosO b) (ne : a ≠ b) (h : MW a b k c) : ∃ r, a = some r ∧ r.1 ≠ k ∧ r.2 ≤ c ∧ 1 ≤ r.2 := by
  cases a with
  | none =>
    cases b with
    | none => exact absurd rfl ne
    | some s =>
      have := pb s rfl
      have := mw_ns.mp h
      omega
  | some r =>
    refine ⟨r, rfl, fun z => h.1 (by show V.str r.1 = V.str k; rw [z]), ?_, pa r rfl⟩
    have h1 : r.2 = numR b := h.2.2.1
    have h2 := h.2.2.2
    omega
section
variable {P : Program} {w : World} {K : PySem.W.Frag} {mg : Str → Option Value} {base : Heap}
end
end UP

set_option Elab.async false
set_option linter.all false
set_option maxRecDepth 100000
set_option maxHeartbeats 4000000
namespace UP
open PySem PySem.Spec PyProof.Rows L2
section
variable {X : Cx} {K : PySem.W.Frag}
theorem op_notIn_seqK (h : X.K = K) : OpR X (compareOp .NotIn) (rIn K true) := h ▸ op_notIn_seq
theorem op_in_seqK (h : X.K = K) : OpR X (compareOp .In) (rIn K false) := h ▸ op_in_seq
end
/-! ### lists of kinds -/
def KsOk (ks : List Str) : Prop := 0 < ks.length ∧ ks.length ≤ 12 ∧ (∀ k ∈ ks, KindOk k) ∧ ∀ (i : Nat) (x y : Str), ks[i]? = some x → ks[i + 1]? = some y → x.cps.toList < y.cps.toList
theorem strR_of {x y : Str} (h : x.cps.toList = y.cps.toList) : x = y := by
  cases x with
  | mk a =>
    cases y with
    | mk b =>
      congr 1
      exact Array.ext' h
theorem rising_next : ∀ (l : List Str) (p : Str), risingS p l = true → ∀ (i : Nat) (x y : Str), (p :: l)[i]? = some x → (p :: l)[i + 1]? = some y → ltCps y.cps.toList x.cps.toList = false
  | [], p, _, i, x, y, _, h2 => by simp at h2
  | z :: t, p, h, 0, x, y, h1, h2 => by
    cases h1
    cases h2
    have h : (!ltCps z.cps.toList p.cps.toList && risingS z t) = true := h
    rw [Bool.and_eq_true] at h
    have := h.1
    cases e : ltCps z.cps.toList p.cps.toList with
    | false => rfl
    | true => rw [e] at this; cases this
  | z :: t, p, h, i + 1, x, y, h1, h2 => by
    have h : (!ltCps z.cps.toList p.cps.toList && risingS z t) = true := h
    rw [Bool.and_eq_true] at h
    exact rising_next t z h.2 i x y h1 h2
theorem ks_of {ks : List Str} (l0 : 0 < ks.length) (l1 : ks.length ≤ 12) (ok : ∀ k ∈ ks, KindOk k) (nd : ks.Nodup ∧ sortedS ks = true) : KsOk ks := by
  refine ⟨l0, l1, ok, fun i x y hx hy => ?_⟩
  cases ks with
  | nil => cases hx
  | cons p t =>
    have h := rising_next t p nd.2 i x y hx hy
    rw [ltCps_eq] at h
    have h := of_decide_eq_false h
    by_cases c : x.cps.toList < y.cps.toList
    · exact c
    · exfalso
      have e : x = y := strR_of (List.le_antisymm h c)
      obtain ⟨h1, e1⟩ := List.getElem?_eq_some_iff.mp hx
      obtain ⟨h2, e2⟩ := List.getElem?_eq_some_iff.mp hy
      have i1 := List.Nodup.idxOf_getElem nd.1 i h1
      have i2 := List.Nodup.idxOf_getElem nd.1 (i + 1) h2
      rw [e1, e] at i1
      rw [e2] at i2
      omega
/-! ### who can meet -/
def TwoK (ks : List Str) (a : Option Run) : Prop := ∃ k1 ∈ ks, ∃ k2 ∈ ks, k1 ≠ k2 ∧ kdV a ≠ .str k1 ∧ kdV a ≠ .str k2
def CanM (ks : List Str) (a b : Option Run) : Prop := (numR a - numR b) % 2 = 0 ∧ ((numR a = numR b ∧ ∃ k ∈ ks, kdV a ≠ .str k ∧ kdV b ≠ .str k) ∨ (numR b < numR a ∧ TwoK ks a) ∨ (numR a < numR b ∧ TwoK ks b))
def mxR (a b : Option Run) : Int := if numR a < numR b then numR b else numR a
def MeetOk (ks : List Str) (a b : Option Run) (rs : List Run) : Prop := (∀ r ∈ rs, r.1 ∈ ks ∧ 1 ≤ r.2) ∧ Alt rs ∧ rs.length ≤ 2 ∧ lenR rs = mxR a b ∧ stR rs a = none ∧ stR rs b = none ∧ mmR rs a b = some (mxR a b)
theorem mx_comm (a b : Option Run) : mxR a b = mxR b a := by
  unfold mxR
  split <;> split <;> omega
theorem can_comm {ks : List Str} {a b : Option Run} (h : CanM ks a b) : CanM ks b a := by
  refine ⟨by have := h.1; omega, ?_⟩
  rcases h.2 with ⟨e, k, hk, h1, h2⟩ | h | h
  · exact .inl ⟨e.symm, k, hk, h2, h1⟩
  · exact .inr (.inr h)
  · exact .inr (.inl h)
theorem meet_comm {ks : List Str} {a b : Option Run} {rs : List Run} (h : MeetOk ks a b rs) : MeetOk ks b a rs := by
  obtain ⟨h1, h2, h3, h4, h5, h6, h7⟩ := h
  exact ⟨h1, h2, h3, h4.trans (mx_comm a b), h6, h5, by rw [mm_comm, h7, mx_comm]⟩
theorem alt_one (r : Run) : Alt [r] := fun i x y h1 h2 => by
  cases i with
  | zero => simp at h2
  | succ i => simp at h2
theorem alt_two {r s : Run} (h : r.1 ≠ s.1) : Alt [r, s] := fun i x y h1 h2 => by
  cases i with
  | zero =>
    cases h1
    cases h2
    exact h
  | succ i =>
    cases i with
    | zero => simp at h2
    | succ i => simp at h2
theorem meet_one {ks : List Str} {a b : Option Run} {k : Str} (pa : PosO a) (pb : PosO b) (ne : a ≠ b) (e : numR a = numR b) (hk : k ∈ ks) (h1 : kdV a ≠ .str k) (h2 : kdV b ≠ .str k) : MeetOk ks a b [(k, numR a)] := by
  have w : MW a b k (numR a) := ⟨h1, h2, e, by omega⟩
  obtain ⟨r, er, rk, _, r1⟩ := w.pos pa pb ne
  obtain ⟨s, es, sk, _, s1⟩ := (MW.comm.mp w).pos pb pa (fun z => ne z.symm)
  subst er
  subst es
  have e : r.2 = s.2 := e
  have sa : stepR (some r) k r.2 = none := by
    rcases step_cases (r := r) (k := k) (c := r.2) with ⟨f, _⟩ | ⟨_, f, _⟩ | ⟨_, _, f⟩ | ⟨_, f, _⟩
    · exact absurd f rk
    · omega
    · exact f
    · omega
  have sb : stepR (some s) k r.2 = none := by
    rcases step_cases (r := s) (k := k) (c := r.2) with ⟨f, _⟩ | ⟨_, f, _⟩ | ⟨_, _, f⟩ | ⟨_, f, _⟩
    · exact absurd f sk
    · omega
    · exact f
    · omega
  have mx : mxR (some r) (some s) = r.2 := by
    unfold mxR
    show (if r.2 < s.2 then s.2 else r.2) = r.2
    split <;> omega
  refine ⟨fun x hx => ?_, alt_one _, by show 1 ≤ 2; decide, ?_, sa, sb, ?_⟩
  · rw [List.mem_singleton.mp hx]
    exact ⟨hk, r1⟩
  · rw [lenR_cons, lenR_nil, mx]
    show r.2 + 0 = r.2
    omega
  · rw [mx]
    unfold mmR
    rw [if_neg ne]
    show (if MW (some r) (some s) k r.2 then some (0 + r.2) else _) = _
    rw [if_pos (show MW (some r) (some s) k r.2 from w), Int.zero_add]
theorem meet_two {ks : List Str} {a b : Option Run} {f g : Str} (pa : PosO a) (pb : PosO b) (lt : numR b < numR a) (ev : (numR a - numR b) % 2 = 0) (hf : f ∈ ks) (hg : g ∈ ks) (h1 : kdV a ≠ .str f) (h2 : kdV b ≠ .str f) (h3 : kdV a ≠ .str g) (fg : f ≠ g) :
    MeetOk ks a b [(f, numR b + (numR a - numR b) / 2), (g, (numR a - numR b) / 2)] := by
  have b0 := num_nn pb
  obtain ⟨h, eh⟩ : ∃ h, (numR a - numR b) / 2 = h := ⟨_, rfl⟩
  have hh : numR a - numR b = 2 * h := by omega
  rw [eh]
  have ne : a ≠ b := fun z => by rw [z] at lt; omega
  cases a with
  | none =>
    have lt : numR b < 0 := lt
    omega
  | some r =>
    have rf : r.1 ≠ f := fun z => h1 (by show V.str r.1 = V.str f; rw [z])
    have rg : r.1 ≠ g := fun z => h3 (by show V.str r.1 = V.str g; rw [z])
    have hr : r.2 - numR b = 2 * h := hh
    have h0 : 1 ≤ h := by
      have lt : numR b < r.2 := lt
      omega
    have sa : stepR (some r) f (numR b + h) = some (r.1, h) := by
      rcases step_cases (r := r) (k := f) (c := numR b + h) with ⟨x, _⟩ | ⟨_, _, x⟩ | ⟨_, x, _⟩ | ⟨_, x, _⟩
      · exact absurd x rf
      · rw [x, show r.2 - (numR b + h) = h by omega]
      · omega
      · omega
    have sb : stepR b f (numR b + h) = some (f, h) := by
      cases b with
      | none =>
        show some (f, 0 + h) = some (f, h)
        rw [Int.zero_add]
      | some s =>
        have sf : s.1 ≠ f := fun z => h2 (by show V.str s.1 = V.str f; rw [z])
        have : numR (some s) = s.2 := rfl
        rcases step_cases (r := s) (k := f) (c := numR (some s) + h) with ⟨x, _⟩ | ⟨_, x, _⟩ | ⟨_, x, _⟩ | ⟨_, _, x⟩
        · exact absurd x sf
        · omega
        · omega
        · rw [x, show numR (some s) + h - s.2 = h by omega]
    have ta : stepR (some (r.1, h)) g h = none := by
      rcases step_cases (r := (r.1, h)) (k := g) (c := h) with ⟨x, _⟩ | ⟨_, x, _⟩ | ⟨_, _, x⟩ | ⟨_, x, _⟩
      · exact absurd x rg
      · have x : h < h := x; omega
      · exact x
      · have x : h < h := x; omega
    have tb : stepR (some (f, h)) g h = none := by
      rcases step_cases (r := (f, h)) (k := g) (c := h) with ⟨x, _⟩ | ⟨_, x, _⟩ | ⟨_, _, x⟩ | ⟨_, x, _⟩
      · exact absurd x fg
      · have x : h < h := x; omega
      · exact x
      · have x : h < h := x; omega
    have mx : mxR (some r) b = r.2 := by
      unfold mxR
      rw [if_neg (by omega)]
      rfl
    refine ⟨fun x hx => ?_, alt_two fg, Nat.le_refl _, ?_, ?_, ?_, ?_⟩
    · rcases List.mem_cons.mp hx with e | e
      · rw [e]
        exact ⟨hf, by show 1 ≤ numR b + h; omega⟩
      · rw [List.mem_singleton.mp e]
        exact ⟨hg, h0⟩
    · rw [lenR_cons, lenR_cons, lenR_nil, mx]
      show numR b + h + (h + 0) = r.2
      omega
    · rw [stR_cons, stR_cons]
      show stR [] (stepR (stepR (some r) f (numR b + h)) g h) = none
      rw [sa, ta]
      rfl
    · rw [stR_cons, stR_cons]
      show stR [] (stepR (stepR b f (numR b + h)) g h) = none
      rw [sb, tb]
      rfl
    · rw [mx]
      unfold mmR
      rw [if_neg ne]
      show (if MW (some r) b f (numR b + h) then _ else mgR [(g, h)] (stepR (some r) f (numR b + h)) (stepR b f (numR b + h)) (0 + (numR b + h))) = _
      rw [if_neg (fun z : MW (some r) b f (numR b + h) => by have z : r.2 = numR b := z.2.2.1; omega), sa, sb]
      show (if MW (some (r.1, h)) (some (f, h)) g h then some (0 + (numR b + h) + h) else _) = _
      rw [if_pos (show MW (some (r.1, h)) (some (f, h)) g h from mw_ss.mpr ⟨rg, fg, rfl, Int.le_refl _⟩), show 0 + (numR b + h) + h = r.2 by omega]
def fk (x y : V) (k : Str) : Bool := !inV (.str k) [x, y]
theorem eqV_kd (a : Option Run) (k : Str) : eqV (kdV a) (.str k) = decide (kdV a = .str k) := by
  cases a with
  | none =>
    show false = _
    rw [decide_eq_false (by intro z; cases z)]
  | some r =>
    show (r.1 == k) = decide (V.str r.1 = V.str k)
    rw [Bool.eq_iff_iff]
    simp
theorem fk_iff {a b : Option Run} {k : Str} : fk (kdV a) (kdV b) k = true ↔ kdV a ≠ .str k ∧ kdV b ≠ .str k := by
  unfold fk inV
  simp only [List.any_cons, List.any_nil, Bool.or_false, eqV_kd]
  by_cases h1 : kdV a = .str k
  · simp [h1]
  · by_cases h2 : kdV b = .str k
    · simp [h1, h2]
    · simp [h1, h2]
theorem fk_str {a : Option Run} {f k : Str} : fk (kdV a) (.str f) k = true ↔ kdV a ≠ .str k ∧ f ≠ k := by
  have := fk_iff (a := a) (b := some (f, 1)) (k := k)
  rw [show kdV (some (f, (1 : Int))) = .str f from rfl] at this
  rw [this]
  exact ⟨fun h => ⟨h.1, fun z => h.2 (by rw [z])⟩, fun h => ⟨h.1, fun z => h.2 (V.str.inj z)⟩⟩
theorem flat_kd (a : Option Run) : flatV (kdV a) = true := by
  cases a <;> rfl
theorem dp_strl {K : PySem.W.Frag} {H : Hp} : ∀ (l : List Str), DpAll K H (l.map V.str) (l.map PyData.str)
  | [] => .nil
  | x :: t => .cons (.str x) (dp_strl t)
theorem shaped_strl {l : List Str} (h : ∀ s ∈ l, KindOk s) : SeqAt.shaped (.list (l.map PyData.str)) = true := by
  have c : ∀ {l : List Str}, (∀ s ∈ l, KindOk s) → PyData.canLayAll0 (l.map PyData.str) = true ∧ PyData.depthAll (l.map PyData.str) ≤ 1 := by
    intro l h
    induction l with
    | nil => exact ⟨by simp [PyData.canLayAll0], by simp [PyData.depthAll]⟩
    | cons x t ih =>
      obtain ⟨h1, h2⟩ := ih fun s hs => h s (List.mem_cons_of_mem _ hs)
      refine ⟨?_, ?_⟩
      · rw [List.map_cons, PyData.canLayAll0, h1]
        simp [PyData.canLay0, (h x (List.mem_cons_self ..)).str]
      · rw [List.map_cons, PyData.depthAll]
        exact Nat.max_le.mpr ⟨by simp [PyData.depth], h2⟩
  obtain ⟨h1, h2⟩ := c h
  unfold SeqAt.shaped
  rw [PyData.canLay0, h1, PyData.depth]
  exact decide_eq_true (by omega)
theorem eqv_nilS (l : List Str) : PyData.eqv (.list (l.map PyData.str)) (.list []) = l.isEmpty := by
  cases l with
  | nil => simp [PyData.eqv, PyData.eqvAll]
  | cons r t => simp [PyData.eqv, PyData.eqvAll]
theorem filter_snoc {p : Str → Bool} {l : List Str} {i : Nat} {x : Str} (h : l[i]? = some x) : (l.take (i + 1)).filter p = (l.take i).filter p ++ if p x = true then [x] else [] := by
  rw [take_snoc h, List.filter_append]
  congr 1
  cases e : p x <;> simp [e]
theorem str_at {ks : List Str} {i : Nat} {x : V} (h : (ks.map V.str)[i]? = some x) : ∃ k, ks[i]? = some k ∧ x = .str k := by
  rw [List.getElem?_map] at h
  cases e : ks[i]? with
  | none =>
    rw [e] at h
    cases h
  | some n =>
    rw [e] at h
    exact ⟨n, rfl, (Option.some.inj h).symm⟩
section
variable {P : Program} {w : World} {K : PySem.W.Frag} {mg : Str → Option Value} {base : Heap}
end
end UP

set_option Elab.async false
set_option linter.all false
set_option maxRecDepth 100000
set_option maxHeartbeats 4000000
namespace UP
open PySem PySem.Spec PyProof.Rows L2
theorem empty_iff {l : List Str} : l.isEmpty = true ↔ l = [] := by
  cases l <;> simp
section
variable {P : Program} {w : World} {K : PySem.W.Frag} {mg : Str → Option Value} {base : Heap}
end
end UP

set_option Elab.async false
set_option linter.all false
set_option maxRecDepth 100000
set_option maxHeartbeats 4000000
namespace UP
open PySem PySem.Spec PyProof.Rows L2
theorem canM_dec (ks : List Str) (a b : Option Run) : CanM ks a b ∨ ¬ CanM ks a b := Classical.em _
open Classical in
noncomputable def dueR (ks : List Str) (a b : Option Run) : Option Int := if a = b then some 0 else if CanM ks a b then some (mxR a b) else none
theorem due_comm (ks : List Str) (a b : Option Run) : dueR ks a b = dueR ks b a := by
  unfold dueR
  by_cases e : a = b
  · rw [if_pos e, if_pos e.symm]
  · rw [if_neg e, if_neg (show ¬ b = a from fun z => e z.symm)]
    by_cases c : CanM ks a b
    · rw [if_pos c, if_pos (can_comm c), mx_comm]
    · rw [if_neg c, if_neg fun z => c (can_comm z)]
theorem due_can {ks : List Str} {a b : Option Run} (e : a ≠ b) (c : CanM ks a b) : dueR ks a b = some (mxR a b) := by
  unfold dueR
  rw [if_neg e, if_pos c]
theorem due_not {ks : List Str} {a b : Option Run} (e : a ≠ b) (c : ¬ CanM ks a b) : dueR ks a b = none := by
  unfold dueR
  rw [if_neg e, if_neg c]
theorem due_eq {ks : List Str} {a : Option Run} : dueR ks a a = some 0 := by
  unfold dueR
  rw [if_pos rfl]
theorem dist_par {a b : Option Run} : distR a b % 2 = 1 ↔ (numR a - numR b) % 2 = 1 := by
  unfold distR
  split
  · split <;> omega
  · omega
section
variable {P : Program} {w : World} {K : PySem.W.Frag} {mg : Str → Option Value} {base : Heap}
/-! _law_of: slots 0:kind 1:count -/
abbrev s_law_of : Stmt := topS 62
theorem sc_law_of : FnScope ["kind", "count"] ["kind", "count"] (defScope s_law_of) := ⟨rfl, rfl, rfl, by decide +kernel, rfl, by decide +kernel, by decide +kernel⟩
def sp_law_of : Sp := fun vs H Q _ => ∃ (k : Str) (c : Int), vs = [.str k, .int c] ∧ 0 ≤ c ∧ ∀ H' v, Same H H' → StV H' v (withR k c) → Q v H'
theorem ok_law_of (D : Df K mg "_law_of" s_law_of) : Has P w K mg base 1 "_law_of" ["kind", "count"] sp_law_of := by
  refine has_of D sc_law_of (fun _ _ _ _ _ _ us hl => match us, hl with | [_, _], _ => rfl) (fun vs H Q E h => ?_) (fun f cdv A outer s₀ H vs Q E hr h => ?_)
  · obtain ⟨_, _, rfl, _⟩ := h
    rfl
  · obtain ⟨k, c, rfl, c0, q⟩ := h
    refine ⟨_, (pss_one (ps_ret (pe_ifExp (pt_cmpR op_gt (pv 1) pe_int (nomark _)) (pe_tup (pa_cons (pv 0) (pa_cons (pv 1) pa_nil))) pe_non))), ?_⟩
    refine ⟨_, rfl, _, _, rfl, rfl, _, rfl, ite2 (fun e => ?_) (fun e => ?_)⟩
    · have e : 0 < c := of_decide_eq_true e
      refine ⟨_, rfl, _, rfl, (by show 2 ≤ sizeLine; decide), fun t nt => q _ _ (same_upd nt) ?_⟩
      rw [show withR k c = some (k, c) from if_neg (by omega)]
      exact ⟨t, rfl, upd_same⟩
    · have e : ¬ 0 < c := fun z => e (decide_eq_true z)
      refine q _ _ (Same.refl _) ?_
      rw [show withR k c = none from if_pos (by omega)]
      rfl
end
end UP

set_option Elab.async false
set_option linter.all false
set_option maxRecDepth 100000
set_option maxHeartbeats 4000000
namespace UP
open PySem PySem.Spec PyProof.Rows L2
theorem p30R : (10 : Int) ^ ((30 : Int).toNat) = 1000000000000000000000000000000 := by decide +kernel
theorem w30 : ((10 : Int) ^ ((30 : Int).toNat)).natAbs < 2 ^ 7999 := by
  rw [p30R]
  exact Nat.lt_of_lt_of_le (show (1000000000000000000000000000000 : Int).natAbs < 2 ^ 256 by decide) (Nat.pow_le_pow_right (by decide) (by decide))
def Bd (st : Option Run) : Prop := ∀ r, st = some r → r.2 ≤ 1000000000000000000000000000000
section
variable {P : Program} {w : World} {K : PySem.W.Frag} {mg : Str → Option Value} {base : Heap}
end
end UP

set_option Elab.async false
set_option linter.all false
set_option maxRecDepth 100000
set_option maxHeartbeats 4000000
namespace UP
open PySem PySem.Spec PyProof.Rows L2
/-! ### counts -/
def Asc (cs : List Run) : Prop := ∀ (i : Nat) (x y : Run), cs[i]? = some x → cs[i + 1]? = some y → x.1.cps.toList < y.1.cps.toList
def CtOk (cs : List Run) : Prop := cs.length ≤ 12 ∧ (∀ r ∈ cs, RunOk r) ∧ Asc cs
def cwR (cs : List Run) (st : Option Run) : List Run := cs.map fun r => (r.1, if kdV st = .str r.1 then r.2 - numR st else r.2)
/-- a list whose items are all tuples -/
def Refs (H : Hp) (p : Addr) (n : Nat) : Prop := ∃ xs : List V, H p = some (.lst xs) ∧ xs.length = n ∧ ∀ x ∈ xs, ∃ t, x = V.ref t
theorem Refs.same {H H' : Hp} {p : Addr} {n : Nat} (s : Same H H') (h : Refs H p n) : Refs H' p n := by
  obtain ⟨xs, e, l, k⟩ := h
  exact ⟨xs, s _ _ e, l, k⟩
section
variable {P : Program} {w : World} {K : PySem.W.Frag} {mg : Str → Option Value} {base : Heap}
/-! is_counts: slots 0:value 1:entry 2:following -/
abbrev s_is_counts : Stmt := topS 29
theorem sc_is_counts : FnScope ["value", "entry", "following"] ["value"] (defScope s_is_counts) := ⟨rfl, rfl, rfl, by decide +kernel, rfl, by decide +kernel, by decide +kernel⟩
def sp_is_counts : Sp := fun vs H Q _ => ∃ (v : V) (rs : List Run), vs = [v] ∧ RunsG H v rs ∧ CtOk rs ∧ ∀ H', Same H H' → Q (.bl true) H'
theorem ok_is_counts (D : Df K mg "is_counts" s_is_counts) (T : Tx mg) (G_is_listed : Has P w K mg base 1 "is_listed" ["value", "most"] sp_is_listed) (G_is_run : Has P w K mg base 3 "is_run" ["value"] sp_is_run) :
    Has P w K mg base 4 "is_counts" ["value"] sp_is_counts := by
  refine has_of D sc_is_counts (fun _ _ _ _ _ _ us hl => match us, hl with | [_], _ => rfl) (fun vs H Q E h => ?_) (fun f cdv A outer s H vs Q E hr h => ?_)
  · obtain ⟨v, r, rfl, _⟩ := h
    rfl
  · obtain ⟨v, rs, rfl, ⟨a, xs, rfl, hx, hp⟩, ⟨l4, rok, alt⟩, q⟩ := h
    have lx : xs.length = rs.length := Paired.len hp
    refine ⟨_, (pss_cons (ps_if (PW.pt (pw_or (pt_not (pt_val (pe_callH G_is_listed (hr.mono (by omega)) (by rfl) (pa_cons (pv 0) (pa_cons (pe_glI T.c_MAX_KINDS (by rfl)) pa_nil))))) (pw_or1 (pt_not (pt_val (pe_callB (cr_all rfl) (by rfl) T.n_all (by decide +kernel) (pa_cons (pe_lc (own := [("entry", 1)]) rfl sc_is_counts.nd (pi_seqV 0) (blkOk_by (N := ["value", "entry", "following"]) (sc := defScope s_is_counts) (by decide +kernel)) (fun _ _ _ _ _ => (pg_name (i := 1) sc_is_counts.nd rfl (by first | exact Or.inl rfl | exact Or.inr rfl))) (fun _ _ _ _ _ => pts_nil) (fun _ _ _ _ _ => (pe_callH G_is_run (hr.mono (by omega)) (by rfl) (pa_cons (pv 1) pa_nil)))) pa_nil))))))) (pss_one (ps_ret pe_bl)) pss_nil)
    (pss_one (ps_ret (pe_callB (cr_all rfl) (by rfl) T.n_all (by decide +kernel) (pa_cons (pe_lc (own := [("entry", 1), ("following", 2)]) rfl sc_is_counts.nd (pi_zip1 (i := 0) (RZ.pi_zipA (by rfl) T.n_zip (pa_cons (pv 0) (pa_cons (pe_slice (SlR.or sl_list sl_tupA) (pv 0) (po_some pe_int) po_none) pa_nil))) (fun _ _ _ q => ⟨1, rfl, q⟩) (fun _ _ _ q => q)) (blkOk_by (N := ["value", "entry", "following"]) (sc := defScope s_is_counts) (by decide +kernel)) (fun _ _ _ _ _ => (pg_tupK (K := K) (n := 2) rfl rfl (pgs_cons (pg_name (i := 1) sc_is_counts.nd rfl (by first | exact Or.inl rfl | exact Or.inr rfl)) (pgs_cons (pg_name (i := 2) sc_is_counts.nd rfl (by first | exact Or.inl rfl | exact Or.inr rfl)) pgs_nil)))) (fun _ _ _ _ _ => pts_nil) (fun _ _ _ _ _ => (pe_cmpR op_lt_str (pe_ix (ix_seqK (K := K) rfl) (pv 1) pe_int (fun _ _ => rfl)) (pe_ix (ix_seqK (K := K) rfl) (pv 2) pe_int (fun _ _ => rfl)) (nomark _)))) pa_nil))))), ?_⟩
    refine ⟨_, rfl, a, xs, 12, rfl, hx, fun H1 s1 => ⟨_, rfl, iteN ?_ ?_⟩⟩
    · show (!decide ((xs.length : Int) ≤ 12)) = false
      rw [decide_eq_true (by omega)]
      rfl
    refine ⟨a, xs, rfl, hx.same s1, fun J wk L nL => lc_wk wk (fun i H' => Same H1 H' ∧ H' L = some (.lst ((List.replicate i true).map V.bl))) (fun _ _ p => p.1) ⟨same_upd nL, upd_same⟩ (fun i x H2 ex p => ?_) (fun H2 p => ?_)⟩
    · obtain ⟨sm, hL⟩ := p
      obtain ⟨r, er, hr1⟩ := Paired.at hp ex
      have hi : i < xs.length := (List.getElem?_eq_some_iff.mp ex).1
      refine ⟨rfl, yesT ⟨_, rfl, x, r, rfl, RunG.same (s1.trans sm) hr1, rok r (List.mem_of_getElem? er), fun H3 s3 => ⟨_, s3 _ _ hL, ?_, same_grow nL (sm.trans s3), ?_⟩⟩⟩
      · simp only [List.length_map, List.length_replicate]
        exact small (by omega)
      · rw [upd_same, List.replicate_succ', List.map_append]
        rfl
    · refine ⟨L, _, rfl, .of p.2, _, rfl, iteN ?_ ?_⟩
      · rw [all_rep]
        rfl
      have s2 : Same H H2 := s1.trans p.1
      refine ⟨a, xs, rfl, hx.same s2, fun J Hc sc wk M nM => ?_⟩
      have sA : Same H Hc := s2.trans sc
      refine lc_gen (n := xs.length - 1) (fun i H' => Same Hc H' ∧ H' M = some (.lst ((List.replicate i true).map V.bl))) ⟨same_upd nM, upd_same⟩ (fun i H' hi p => wk.go i H' p.1 (by omega)) (fun H' p => wk.stop H' p.1) (fun i x H3 H4 hi p y => ?_) (fun H' p => ?_)
      · obtain ⟨T', x1, x2, rfl, nT, rfl, g1, g2⟩ := wk.yld i x H3 H4 p.1 y
        obtain ⟨sm, hM⟩ := p
        have g2 := g2 (by omega)
        have sB : Same H H3 := sA.trans sm
        obtain ⟨r1, e1, v1⟩ := Paired.at hp g1
        obtain ⟨r2, e2, v2⟩ := Paired.at hp g2
        obtain ⟨t1, rfl, w1⟩ := RunG.same (sB.trans (same_upd (o := .tup [x1, x2]) nT)) v1
        obtain ⟨t2, rfl, w2⟩ := RunG.same (sB.trans (same_upd (o := .tup [_, x2]) nT)) v2
        refine ⟨T', _, rfl, .of upd_same, rfl, _, _, rfl, _, _, rfl, rfl, rfl, yesT ?_⟩
        refine ⟨_, rfl, ix0 w1 ⟨_, rfl, ix0 w2 ⟨_, _, rfl, rfl, _, same_upd nT _ _ hM, ?_, same_grow nM (sm.trans (same_upd nT)), ?_⟩⟩⟩
        · simp only [List.length_map, List.length_replicate]
          exact small (by omega)
        · rw [upd_same, List.replicate_succ', List.map_append, decide_eq_true (alt i r1 r2 e1 e2)]
          rfl
      · refine ⟨M, _, rfl, .of p.2, ?_⟩
        rw [all_rep]
        exact q _ (sA.trans p.1)
/-! checked_counts: slots 0:counts 1:kind 2:count -/
abbrev s_checked_counts : Stmt := topS 30
theorem sc_checked_counts : FnScope ["counts", "kind", "count"] ["counts"] (defScope s_checked_counts) := ⟨rfl, rfl, rfl, by decide +kernel, rfl, by decide +kernel, by decide +kernel⟩
def sp_checked_counts : Sp := fun vs H Q _ => ∃ (v : V) (rs : List Run), vs = [v] ∧ RunsG H v rs ∧ CtOk rs ∧ ∀ H' p, Same H H' → H p = none → Runs H' p rs → Q (.ref p) H'
theorem ok_checked_counts (D : Df K mg "checked_counts" s_checked_counts) (T : Tx mg) (G_is_counts : Has P w K mg base 4 "is_counts" ["value"] sp_is_counts) :
    Has P w K mg base 5 "checked_counts" ["counts"] sp_checked_counts := by
  refine has_of D sc_checked_counts (fun _ _ _ _ _ _ us hl => match us, hl with | [_], _ => rfl) (fun vs H Q E h => ?_) (fun f cdv A outer s H vs Q E hr h => ?_)
  · obtain ⟨v, r, rfl, _⟩ := h
    rfl
  · obtain ⟨v, rs, rfl, hR, ok, q⟩ := h
    refine ⟨_, (pss_cons (ps_if (pt_not (pt_val (pe_callH G_is_counts (hr.mono (by omega)) (by rfl) (pa_cons (pv 0) pa_nil)))) (pss_one ps_never) pss_nil)
    (pss_one (ps_ret (pe_lc (own := [("kind", 1), ("count", 2)]) rfl sc_checked_counts.nd (pi_seqV 0) (blkOk_by (N := ["counts", "kind", "count"]) (sc := defScope s_checked_counts) (by decide +kernel)) (fun _ _ _ _ _ => (pg_any (n := 2) rfl (pgs_cons (pg_name (i := 1) sc_checked_counts.nd rfl (by first | exact Or.inl rfl | exact Or.inr rfl)) (pgs_cons (pg_name (i := 2) sc_checked_counts.nd rfl (by first | exact Or.inl rfl | exact Or.inr rfl)) pgs_nil)))) (fun _ _ _ _ _ => pts_nil) (fun _ _ _ _ _ => (pe_tup (pa_cons (pv 1) (pa_cons (pv 2) pa_nil)))))))), ?_⟩
    refine ⟨_, rfl, v, rs, rfl, hR, ok, fun H1 s1 => ⟨true, rfl, iteF ?_⟩⟩
    obtain ⟨a, xs, rfl, hx, hp⟩ := hR
    have lx : xs.length = rs.length := Paired.len hp
    refine ⟨a, xs, rfl, hx.same s1, fun J wk L nL => lc_wk wk (fun i H' => Same H1 H' ∧ ∃ ys, H' L = some (.lst ys) ∧ Paired (RunV H') ys (rs.take i)) (fun _ _ p => p.1) ⟨same_upd nL, [], upd_same, .nil⟩ (fun i x H2 ex p => ?_) (fun H2 p => ?_)⟩
    · obtain ⟨sm, ys, hL, hy⟩ := p
      obtain ⟨r, er, hr1⟩ := Paired.at hp ex
      have hi : i < xs.length := (List.getElem?_eq_some_iff.mp ex).1
      obtain ⟨t, rfl, ht⟩ := RunG.same (s1.trans sm) hr1
      refine ⟨t, _, rfl, ht, rfl, _, _, rfl, _, _, rfl, rfl, rfl, yesT ⟨_, rfl, _, rfl, (by show 2 ≤ sizeLine; decide), fun n nn => ⟨_, same_upd nn _ _ hL, ?_, same_grow nL (sm.trans (same_upd nn)), _, upd_same, ?_⟩⟩⟩
      · have := Paired.len hy
        rw [List.length_take] at this
        exact small (by have := ok.1; omega)
      · rw [take_snoc er]
        refine Paired.app (prs_grow (same_upd nn _ _ hL) (prs_same (same_upd nn) hy)) (.cons ?_ .nil)
        exact RunV.grow (same_upd nn _ _ hL) ⟨n, rfl, upd_same⟩
    · obtain ⟨sm, ys, hL, hy⟩ := p
      rw [lx, List.take_length] at hy
      exact q H2 L (s1.trans sm) (s1.free nL) ⟨ys, hL, hy⟩
/-! counts_without: slots 0:counts 1:state 2:kind 3:count -/
abbrev s_counts_without : Stmt := topS 31
theorem sc_counts_without : FnScope ["counts", "state", "kind", "count"] ["counts", "state"] (defScope s_counts_without) := ⟨rfl, rfl, rfl, by decide +kernel, rfl, by decide +kernel, by decide +kernel⟩
def sp_counts_without : Sp := fun vs H Q _ => ∃ (a : Addr) (cs : List Run) (v : V) (st : Option Run), vs = [.ref a, v] ∧ Runs H a cs ∧ cs.length ≤ 12 ∧ StV H v st ∧ ∀ H' p, Same H H' → H p = none → Runs H' p (cwR cs st) → Q (.ref p) H'
theorem ok_counts_without (D : Df K mg "counts_without" s_counts_without) (G_kind_of : Has P w K mg base 1 "kind_of" ["state"] sp_kind_of) (G_waiting_number : Has P w K mg base 1 "waiting_number" ["state"] sp_waiting_number) : Has P w K mg base 2 "counts_without" ["counts", "state"] sp_counts_without := by
  refine has_of D sc_counts_without (fun _ _ _ _ _ _ us hl => match us, hl with | [_, _], _ => rfl) (fun vs H Q E h => ?_) (fun f cdv A outer s H vs Q E hr h => ?_)
  · obtain ⟨_, _, _, _, rfl, _⟩ := h
    rfl
  · obtain ⟨a, cs, v, st, rfl, ⟨xs, hx, hp⟩, l12, hv, q⟩ := h
    have lx : xs.length = cs.length := Paired.len hp
    refine ⟨_, (pss_one (ps_ret (pe_lc (own := [("kind", 2), ("count", 3)]) rfl sc_counts_without.nd (pi_list (pv 0)) (blkOk_by (N := ["counts", "state", "kind", "count"]) (sc := defScope s_counts_without) (by decide +kernel)) (fun _ _ _ _ _ => (pg_tupK (K := K) (n := 2) rfl rfl (pgs_cons (pg_name (i := 2) sc_counts_without.nd rfl (by first | exact Or.inl rfl | exact Or.inr rfl)) (pgs_cons (pg_name (i := 3) sc_counts_without.nd rfl (by first | exact Or.inl rfl | exact Or.inr rfl)) pgs_nil)))) (fun _ _ _ _ _ => pts_nil) (fun _ _ _ _ _ => (pe_tup (pa_cons (pv 2) (pa_cons (pe_ifExp (pt_cmpR op_eq (pv 2) (pe_callH G_kind_of (hr.mono (by omega)) (by rfl) (pa_cons (pv 1) pa_nil)) (nomark _)) (pe_op op_sub (pv 3) (pe_callH G_waiting_number (hr.mono (by omega)) (by rfl) (pa_cons (pv 1) pa_nil))) (pv 3)) pa_nil))))))), ?_⟩
    refine ⟨_, rfl, a, rfl, ⟨xs, .of hx⟩, fun L nL => lc_list (K := K) (a := a) (xs := xs) (fun i H' => Same H H' ∧ ∃ ys, H' L = some (.lst ys) ∧ Paired (RunV H') ys (cwR (cs.take i) st)) ⟨same_upd nL, [], upd_same, .nil⟩ (fun i H' _ p => .of (p.1 _ _ hx)) (fun i x H2 ex p => ?_) (fun H2 p => ?_)⟩
    · obtain ⟨sm, ys, hL, hy⟩ := p
      obtain ⟨r, er, hr1⟩ := Paired.at hp ex
      have hi : i < xs.length := (List.getElem?_eq_some_iff.mp ex).1
      obtain ⟨t, rfl, ht⟩ := RunV.same sm hr1
      have ly := Paired.len hy
      have lc : (cwR (cs.take i) st).length ≤ 12 := by
        unfold cwR
        rw [List.length_map, List.length_take]
        omega
      have en : cwR (cs.take (i + 1)) st = cwR (cs.take i) st ++ [(r.1, if kdV st = .str r.1 then r.2 - numR st else r.2)] := by
        rw [take_snoc er]
        unfold cwR
        rw [List.map_append]
        rfl
      have fin : ∀ c : Int, c = (if kdV st = .str r.1 then r.2 - numR st else r.2) → ∀ n, H2 n = none → ∃ acc, (upd H2 n (.tup [.str r.1, .int c])) L = some (.lst acc) ∧ acc.length < sizeLine ∧ Same H (upd (upd H2 n (.tup [.str r.1, .int c])) L (.lst (acc ++ [.ref n]))) ∧ ∃ ys, (upd (upd H2 n (.tup [.str r.1, .int c])) L (.lst (acc ++ [.ref n]))) L = some (.lst ys) ∧ Paired (RunV (upd (upd H2 n (.tup [.str r.1, .int c])) L (.lst (acc ++ [.ref n])))) ys (cwR (cs.take (i + 1)) st) := by
        intro c ec n nn
        refine ⟨ys, same_upd nn _ _ hL, small (by omega), same_grow nL (sm.trans (same_upd nn)), _, upd_same, ?_⟩
        rw [en, ← ec]
        exact Paired.app (prs_grow (same_upd nn _ _ hL) (prs_same (same_upd nn) hy)) (.cons (RunV.grow (same_upd nn _ _ hL) ⟨n, rfl, upd_same⟩) .nil)
      refine ⟨t, _, rfl, .of ht, rfl, _, _, rfl, _, _, rfl, rfl, rfl, yesT ⟨_, rfl, _, rfl, _, rfl, v, st, rfl, hv.same sm, ?_⟩⟩
      have sc : scal (.str r.1) (kdV st) = true := by cases st <;> rfl
      refine ⟨sc, _, rfl, ite2 (fun e => ?_) (fun e => ?_)⟩
      · have e : V.str r.1 = kdV st := of_decide_eq_true e
        exact ⟨_, rfl, _, rfl, v, st, rfl, hv.same sm, _, _, rfl, rfl, (by show 2 ≤ sizeLine; decide), fun n nn => fin _ (by rw [if_pos e.symm]) n nn⟩
      · have e : ¬ V.str r.1 = kdV st := fun z => e (decide_eq_true z)
        exact ⟨_, rfl, (by show 2 ≤ sizeLine; decide), fun n nn => fin _ (by rw [if_neg fun z => e z.symm]) n nn⟩
    · obtain ⟨sm, ys, hL, hy⟩ := p
      rw [lx, List.take_length] at hy
      exact q H2 L sm nL ⟨ys, hL, hy⟩
/-! majority_in: slots 0:counts 1:total 2:kind 3:count -/
abbrev s_majority_in : Stmt := topS 32
theorem sc_majority_in : FnScope ["counts", "total", "kind", "count"] ["counts"] (defScope s_majority_in) := ⟨rfl, rfl, rfl, by decide +kernel, rfl, by decide +kernel, by decide +kernel⟩
def majR (cs : List Run) : List Run := cs.filter fun r => decide (lenR cs < 2 * r.2)
def sp_majority_in : Sp := fun vs H Q _ => ∃ (a : Addr) (cs : List Run), vs = [.ref a] ∧ Runs H a cs ∧ cs.length ≤ 12 ∧ ∀ H' p, Same H H' → H p = none → Refs H' p (majR cs).length → Q (.ref p) H'
theorem ok_majority_in (D : Df K mg "majority_in" s_majority_in) (G_length_of : Has P w K mg base 1 "length_of" ["runs"] sp_length_of) : Has P w K mg base 2 "majority_in" ["counts"] sp_majority_in := by
  refine has_of D sc_majority_in (fun _ _ _ _ _ _ us hl => match us, hl with | [_], _ => rfl) (fun vs H Q E h => ?_) (fun f cdv A outer s H vs Q E hr h => ?_)
  · obtain ⟨_, _, rfl, _⟩ := h
    rfl
  · obtain ⟨a, cs, rfl, hR, l12, q⟩ := h
    refine ⟨_, (pss_cons (ps_set (i := 1) sc_majority_in.nd rfl (by first | exact Or.inl rfl | exact Or.inr rfl) (pe_callH G_length_of (hr.mono (by omega)) (by rfl) (pa_cons (pv 0) pa_nil)))
    (pss_one (ps_ret (pe_lc (own := [("kind", 2), ("count", 3)]) rfl sc_majority_in.nd (pi_list (pv 0)) (blkOk_by (N := ["counts", "total", "kind", "count"]) (sc := defScope s_majority_in) (by decide +kernel)) (fun _ _ _ _ _ => (pg_tupK (K := K) (n := 2) rfl rfl (pgs_cons (pg_name (i := 2) sc_majority_in.nd rfl (by first | exact Or.inl rfl | exact Or.inr rfl)) (pgs_cons (pg_name (i := 3) sc_majority_in.nd rfl (by first | exact Or.inl rfl | exact Or.inr rfl)) pgs_nil)))) (fun _ _ _ _ _ => pts_one (pt_cmpR op_gt (pe_op op_mul pe_int (pv 3)) (pv 1) (nomark _))) (fun _ _ _ _ _ => (pe_tup (pa_cons pe_str (pa_cons (pv 2) (pa_cons (pv 3) (pa_cons (pv 1) pa_nil)))))))))), ?_⟩
    refine ⟨_, rfl, a, cs, rfl, hR, by omega, fun H1 s1 => ?_⟩
    obtain ⟨xs, hx, hp⟩ := hR.same s1
    have lx : xs.length = cs.length := Paired.len hp
    refine ⟨_, rfl, a, rfl, ⟨xs, .of hx⟩, fun L nL => lc_list (K := K) (a := a) (xs := xs) (fun i H' => Same H1 H' ∧ Refs H' L ((cs.take i).filter fun r => decide (lenR cs < 2 * r.2)).length) ⟨same_upd nL, [], upd_same, rfl, fun x h => by cases h⟩ (fun i H' _ p => .of (p.1 _ _ hx)) (fun i x H2 ex p => ?_) (fun H2 p => ?_)⟩
    · obtain ⟨sm, ys, hL, ly, rf⟩ := p
      obtain ⟨r, er, hr1⟩ := Paired.at hp ex
      have hi : i < xs.length := (List.getElem?_eq_some_iff.mp ex).1
      obtain ⟨t, rfl, ht⟩ := RunV.same sm hr1
      have lf := List.length_filter_le (fun r : Run => decide (lenR cs < 2 * r.2)) (cs.take i)
      rw [List.length_take] at lf
      rw [take_snoc er, List.filter_append, List.length_append]
      refine ⟨t, _, rfl, .of ht, rfl, _, _, rfl, _, _, rfl, rfl, rfl, _, rfl, _, _, rfl, rfl, .inl ⟨by decide, by decide⟩, _, rfl, _, _, rfl, rfl, _, rfl, ite2 (fun e => ?_) (fun e => ?_)⟩
      · have e : lenR cs < 2 * r.2 := of_decide_eq_true e
        refine ⟨_, rfl, _, rfl, _, rfl, (by show 4 ≤ sizeLine; decide), fun n nn => ⟨_, same_upd nn _ _ hL, small (by omega), same_grow nL (sm.trans (same_upd nn)), _, upd_same, ?_, fun x hx => ?_⟩⟩
        · rw [List.length_append, ly, List.filter_cons, if_pos (decide_eq_true e)]
          rfl
        · rcases List.mem_append.mp hx with h | h
          · exact rf x h
          · exact ⟨n, List.mem_singleton.mp h⟩
      · have e : ¬ lenR cs < 2 * r.2 := fun z => e (decide_eq_true z)
        refine ⟨sm, ys, hL, ?_, rf⟩
        rw [ly, List.filter_cons, if_neg (by rw [decide_eq_false e]; decide)]
        rfl
    · obtain ⟨sm, rf⟩ := p
      rw [lx, List.take_length] at rf
      exact q H2 L (s1.trans sm) (s1.free nL) rf
end
end UP

set_option Elab.async false
set_option linter.all false
set_option maxRecDepth 100000
set_option maxHeartbeats 4000000
namespace UP
open PySem PySem.Spec PyProof.Rows L2
def CanR (cs : List Run) (st : Option Run) : Prop := (∀ r, st = some r → r.1 ∈ cs.map (·.1)) ∧ (∀ r ∈ cs, kdV st = .str r.1 → numR st ≤ r.2) ∧ lenR (cwR cs st) % 2 = 0 ∧ ∀ r ∈ cwR cs st, 2 * r.2 ≤ lenR (cwR cs st)
def fewP (st : Option Run) (r : Run) : Bool := decide (V.str r.1 = kdV st) && decide (r.2 < numR st)
theorem cw_len (cs : List Run) (st : Option Run) : (cwR cs st).length = cs.length := by
  unfold cwR
  rw [List.length_map]
theorem filter_zero {α : Type} {p : α → Bool} {l : List α} : (l.filter p).length = 0 ↔ ∀ x ∈ l, p x = false := by
  rw [List.length_eq_zero_iff, List.filter_eq_nil_iff]
  refine ⟨fun h x hx => ?_, fun h x hx => ?_⟩
  · cases e : p x with
    | false => rfl
    | true => exact absurd e (h x hx)
  · rw [h x hx]
    decide
theorem can_iff {cs : List Run} {st : Option Run} {f m k : Nat} (kn : ∀ r, st = some r → r.1 ∈ cs.map (·.1)) (hf : f = (cs.filter (fewP st)).length) (hm : m = (majR (cwR cs st)).length) (hk : k = 0 ↔ lenR (cwR cs st) % 2 ≠ 1) : f + k + (if f = 0 then m else 0) = 0 ↔ CanR cs st := by
  have e1 : f = 0 ↔ ∀ r ∈ cs, kdV st = .str r.1 → numR st ≤ r.2 := by
    rw [hf, filter_zero]
    refine forall_congr' fun r => forall_congr' fun hr => ?_
    unfold fewP
    constructor
    · intro h e
      rw [decide_eq_true e.symm, Bool.true_and] at h
      have := of_decide_eq_false h
      omega
    · intro h
      by_cases e : V.str r.1 = kdV st
      · rw [decide_eq_true e, Bool.true_and, decide_eq_false (by have := h e.symm; omega)]
      · rw [decide_eq_false e, Bool.false_and]
  have e2 : m = 0 ↔ ∀ r ∈ cwR cs st, 2 * r.2 ≤ lenR (cwR cs st) := by
    rw [hm]
    unfold majR
    rw [filter_zero]
    refine forall_congr' fun r => forall_congr' fun hr => ?_
    constructor
    · intro h
      have := of_decide_eq_false h
      omega
    · intro h
      exact decide_eq_false (by omega)
  unfold CanR
  constructor
  · intro h
    have f0 : f = 0 := by omega
    rw [if_pos f0] at h
    exact ⟨kn, e1.mp f0, by have := hk.mp (by omega); omega, e2.mp (by omega)⟩
  · rintro ⟨_, h1, h2, h3⟩
    have f0 := e1.mpr h1
    have k0 := hk.mpr (by omega)
    have m0 := e2.mpr h3
    rw [if_pos f0]
    omega
section
variable {P : Program} {w : World} {K : PySem.W.Frag} {mg : Str → Option Value} {base : Heap}
/-! reasons_in: slots 0:counts 1:state 2:others 3:total 4:parity 5:few 6:kind 7:count -/
abbrev s_reasons_in : Stmt := topS 33
theorem sc_reasons_in : FnScope ["counts", "state", "others", "total", "parity", "few", "kind", "count"] ["counts", "state"] (defScope s_reasons_in) := ⟨rfl, rfl, rfl, by decide +kernel, rfl, by decide +kernel, by decide +kernel⟩
def sp_reasons_in : Sp := fun vs H Q _ => ∃ (a : Addr) (cs : List Run) (v : V) (st : Option Run), vs = [.ref a, v] ∧ Runs H a cs ∧ cs.length ≤ 12 ∧ StV H v st ∧ ∀ H' p n, Same H H' → H p = none → Refs H' p n → (n = 0 ↔ CanR cs st) → Q (.ref p) H'
theorem ok_reasons_in (D : Df K mg "reasons_in" s_reasons_in) (T : Tx mg) (G_counts_without : Has P w K mg base 2 "counts_without" ["counts", "state"] sp_counts_without) (G_length_of : Has P w K mg base 1 "length_of" ["runs"] sp_length_of) (G_kind_of : Has P w K mg base 1 "kind_of" ["state"] sp_kind_of) (G_waiting_number : Has P w K mg base 1 "waiting_number" ["state"] sp_waiting_number) (G_majority_in : Has P w K mg base 2 "majority_in" ["counts"] sp_majority_in) : Has P w K mg base 3 "reasons_in" ["counts", "state"] sp_reasons_in := by
  refine has_of D sc_reasons_in (fun _ _ _ _ _ _ us hl => match us, hl with | [_, _], _ => rfl) (fun vs H Q E h => ?_) (fun f cdv A outer s H vs Q E hr h => ?_)
  · obtain ⟨_, _, _, _, rfl, _⟩ := h
    rfl
  · obtain ⟨a, cs, v, st, rfl, hR, l12, hv, q⟩ := h
    have hR0 := hR
    obtain ⟨xs, hx, hp⟩ := hR
    have lx : xs.length = cs.length := Paired.len hp
    refine ⟨_, (C8.pss_cut (ps_if (PW.pt (pw_and (pt_cmpR op_notN (pv 1) pe_non (nomark _)) (pw_and1 (pt_cmpR op_notIn_seq (pe_ix ix_tup (pv 1) pe_int (fun _ _ => rfl)) (pe_lc (own := [("kind", 6), ("count", 7)]) rfl sc_reasons_in.nd (pi_list (pv 0)) (blkOk_by (N := ["counts", "state", "others", "total", "parity", "few", "kind", "count"]) (sc := defScope s_reasons_in) (by decide +kernel)) (fun _ _ _ _ _ => (pg_tupK (K := K) (n := 2) rfl rfl (pgs_cons (pg_name (i := 6) sc_reasons_in.nd rfl (by first | exact Or.inl rfl | exact Or.inr rfl)) (pgs_cons (pg_name (i := 7) sc_reasons_in.nd rfl (by first | exact Or.inl rfl | exact Or.inr rfl)) pgs_nil)))) (fun _ _ _ _ _ => pts_nil) (fun _ _ _ _ _ => (pv 6))) (by with_unfolding_all rfl))))) (pss_one (ps_ret (pe_lst (pa_cons (pe_tup (pa_cons pe_str (pa_cons (pe_ix ix_tup (pv 1) pe_int (fun _ _ => rfl)) pa_nil))) pa_nil)))) pss_nil)
    (pss_cons (ps_set (i := 2) sc_reasons_in.nd rfl (by first | exact Or.inl rfl | exact Or.inr rfl) (pe_callH G_counts_without (hr.mono (by omega)) (by rfl) (pa_cons (pv 0) (pa_cons (pv 1) pa_nil))))
    (pss_cons (ps_set (i := 3) sc_reasons_in.nd rfl (by first | exact Or.inl rfl | exact Or.inr rfl) (pe_callH G_length_of (hr.mono (by omega)) (by rfl) (pa_cons (pv 2) pa_nil)))
    (C8.pss_cut (ps_set (i := 4) sc_reasons_in.nd rfl (by first | exact Or.inl rfl | exact Or.inr rfl) (pe_ifExp (pt_cmpR op_eq (pe_op op_mod (pv 3) pe_int) pe_int (nomark _)) (pe_lst (pa_cons (pe_tup (pa_cons pe_str (pa_cons (pv 3) pa_nil))) pa_nil)) (pe_lst pa_nil)))
    (pss_cons (ps_setLc (i := 5) (own := [("kind", 6), ("count", 7)]) rfl sc_reasons_in.nd rfl rfl (sw_true rfl rfl rfl (by decide +kernel)) (pi_list (pv 0)) (blkOk_by (N := ["counts", "state", "others", "total", "parity", "few", "kind", "count"]) (sc := defScope s_reasons_in) (by decide +kernel)) (fun _ _ _ _ _ => (pg_tupK (K := K) (n := 2) rfl rfl (pgs_cons (pg_name (i := 6) sc_reasons_in.nd rfl (by first | exact Or.inl rfl | exact Or.inr rfl)) (pgs_cons (pg_name (i := 7) sc_reasons_in.nd rfl (by first | exact Or.inl rfl | exact Or.inr rfl)) pgs_nil)))) (fun _ _ _ _ _ => pts_one (PW.pt (pw_and (pt_cmpR op_eq (pv 6) (pe_callH G_kind_of (hr.mono (by omega)) (by rfl) (pa_cons (pv 1) pa_nil)) (nomark _)) (pw_and1 (pt_cmpR op_lt (pv 7) (pe_callH G_waiting_number (hr.mono (by omega)) (by rfl) (pa_cons (pv 1) pa_nil)) (nomark _)))))) (fun _ _ _ _ _ => (pe_tup (pa_cons pe_str (pa_cons (pv 7) pa_nil)))))
    (pss_one (ps_ret (pe_op op_cat (pe_op op_cat (pv 5) (pv 4)) (pe_ifExp (pt_truth (pv 5) (by intro _; rfl)) (pe_lst pa_nil) (pe_callH G_majority_in (hr.mono (by omega)) (by rfl) (pa_cons (pv 2) pa_nil))))))))))), ?_⟩
    refine ⟨fun σ' H' => σ' = [some (.ref a), some v, none, none, none, none, none, none] ∧ Same H H' ∧ ∀ r, st = some r → r.1 ∈ cs.map (·.1), ?_, fun σ' H1 hM => ?_⟩
    · cases st with
      | none =>
        obtain rfl := hv
        exact ⟨_, rfl, rfl, _, rfl, iteN rfl (iteF ⟨rfl, Same.refl _, fun r h => by cases h⟩)⟩
      | some r =>
        obtain ⟨t, rfl, ht⟩ := hv
        refine ⟨_, rfl, rfl, _, rfl, iteP rfl ⟨_, rfl, t, _, 0, _, rfl, rfl, .of ht, at0, _, rfl, a, rfl, ⟨xs, .of hx⟩, fun L nL => lc_list (K := K) (a := a) (xs := xs) (fun i H' => Same H H' ∧ H' L = some (.lst (((cs.take i).map (·.1)).map V.str))) ⟨same_upd nL, upd_same⟩ (fun i H' _ p => .of (p.1 _ _ hx)) (fun i x H2 ex p => ?_) (fun H2 p => ?_)⟩⟩
        · obtain ⟨sm, hL⟩ := p
          obtain ⟨c, er, hr1⟩ := Paired.at hp ex
          have hi : i < xs.length := (List.getElem?_eq_some_iff.mp ex).1
          obtain ⟨tc, rfl, htc⟩ := RunV.same sm hr1
          refine ⟨tc, _, rfl, .of htc, rfl, _, _, rfl, _, _, rfl, rfl, rfl, yesT ⟨_, rfl, _, hL, ?_, same_grow nL sm, ?_⟩⟩
          · rw [List.length_map, List.length_map, List.length_take]
            exact small (by omega)
          · rw [upd_same, take_snoc er, List.map_append, List.map_append]
            rfl
        · obtain ⟨sm, hL⟩ := p
          rw [lx, List.take_length] at hL
          have fl : ((cs.map (·.1)).map V.str).all flatV = true := by
            rw [List.all_eq_true]
            intro x hx
            obtain ⟨k, _, rfl⟩ := List.mem_map.mp hx
            rfl
          refine ⟨L, _, rfl, .inl (.of hL), rfl, fl, _, rfl, ?_⟩
          by_cases c : r.1 ∈ cs.map (·.1)
          · have e1 : inV (.str r.1) ((cs.map (·.1)).map V.str) = true := by
              unfold inV
              rw [List.any_eq_true]
              refine ⟨.str r.1, List.mem_map.mpr ⟨r.1, c, rfl⟩, ?_⟩
              show (r.1 == r.1) = true
              simp
            exact iteN (by rw [e1]; rfl) ⟨rfl, sm, fun r' h => by cases h; exact c⟩
          · have e1 : inV (.str r.1) ((cs.map (·.1)).map V.str) = false := by
              unfold inV
              rw [List.any_eq_false]
              intro x hx h
              obtain ⟨k, hk, rfl⟩ := List.mem_map.mp hx
              have h : (k == r.1) = true := h
              have := eq_of_beq h
              rw [this] at hk
              exact c hk
            refine iteP (by rw [e1]; rfl) ⟨_, rfl, t, _, 0, _, rfl, rfl, .of (sm _ _ ht), at0, (by show 2 ≤ sizeLine; decide), fun n nn => ⟨(by show 1 ≤ sizeLine; decide), fun p np => ?_⟩⟩
            refine q _ p 1 (sm.trans ((same_upd nn).trans (same_upd np))) (sm.free ((same_upd nn).free np)) ⟨_, upd_same, rfl, fun x hx => ⟨n, List.mem_singleton.mp hx⟩⟩ ⟨fun z => (by cases z), fun z => absurd (z.1 r rfl) c⟩
    obtain ⟨rfl, s1, kn⟩ := hM
    refine ⟨_, rfl, _, rfl, a, cs, v, st, rfl, hR0.same s1, l12, hv.same s1, fun H2 p2 s2 n2 h2 => ?_⟩
    refine ⟨_, rfl, p2, _, rfl, h2, by rw [cw_len]; omega, fun H3 s3 => ?_⟩
    have h3 := h2.same s3
    have sA := s1.trans (s2.trans s3)
    refine ⟨fun σ' H' => ∃ pp k, σ' = [some (.ref a), some v, some (.ref p2), some (.int (lenR (cwR cs st))), some (.ref pp), none, none, none] ∧ Same H3 H' ∧ Refs H' pp k ∧ k ≤ 1 ∧ (k = 0 ↔ lenR (cwR cs st) % 2 ≠ 1), ?_, fun σ' H4 hM => ?_⟩
    · refine ⟨_, rfl, _, _, rfl, rfl, (by show (0 : Int) < 2; decide), rfl, _, rfl, ite2 (fun e => ?_) (fun e => ?_)⟩
      · have e : lenR (cwR cs st) % 2 = 1 := V.int.inj (of_decide_eq_true e)
        refine ⟨_, rfl, (by show 2 ≤ sizeLine; decide), fun n nn => ⟨(by show 1 ≤ sizeLine; decide), fun p np => ⟨p, 1, rfl, (same_upd nn).trans (same_upd np), ⟨_, upd_same, rfl, fun x hx => ⟨n, List.mem_singleton.mp hx⟩⟩, Nat.le_refl _, ⟨fun z => (by cases z), fun z => absurd e z⟩⟩⟩⟩
      · have e : ¬ lenR (cwR cs st) % 2 = 1 := fun z => e (decide_eq_true (by show V.int (lenR (cwR cs st) % 2) = V.int 1; rw [z]))
        exact ⟨Nat.zero_le _, fun p np => ⟨p, 0, rfl, same_upd np, ⟨_, upd_same, rfl, fun x hx => by cases hx⟩, Nat.zero_le _, ⟨fun _ => e, fun _ => rfl⟩⟩⟩
    obtain ⟨pp, k, rfl, s4, hpp, k1, hk⟩ := hM
    have sB := sA.trans s4
    have h4 := h3.same s4
    have hx4 := sB _ _ hx
    have hv4 := hv.same sB
    refine ⟨_, rfl, a, rfl, ⟨xs, .of hx4⟩, fun F nF => lc_list (K := K) (a := a) (xs := xs) (fun i H' => Same H4 H' ∧ Refs H' F ((cs.take i).filter (fewP st)).length) ⟨same_upd nF, [], upd_same, rfl, fun x h => by cases h⟩ (fun i H' _ p => .of (p.1 _ _ hx4)) (fun i x H5 ex p => ?_) (fun H5 p => ?_)⟩
    · obtain ⟨s5, ys, hF, ly, rf⟩ := p
      obtain ⟨r, er, hr1⟩ := Paired.at hp ex
      have hi : i < xs.length := (List.getElem?_eq_some_iff.mp ex).1
      obtain ⟨t, rfl, ht⟩ := RunV.same (sB.trans s5) hr1
      have lf := List.length_filter_le (fewP st) (cs.take i)
      rw [List.length_take] at lf
      rw [take_snoc er, List.filter_append, List.length_append]
      have sc : scal (.str r.1) (kdV st) = true := by cases st <;> rfl
      have skip : fewP st r = false → Same H4 H5 ∧ Refs H5 F (((cs.take i).filter (fewP st)).length + ([r].filter (fewP st)).length) := fun e => by
        refine ⟨s5, ys, hF, ?_, rf⟩
        rw [ly, List.filter_cons, if_neg (by rw [e]; decide)]
        rfl
      refine ⟨t, _, rfl, .of ht, rfl, _, _, rfl, _, _, rfl, rfl, rfl, _, rfl, _, rfl, v, st, rfl, hv4.same s5, sc, _, rfl, ite2 (fun e => ?_) (fun e => iteF (skip ?_))⟩
      · have e : V.str r.1 = kdV st := of_decide_eq_true e
        refine ⟨_, rfl, _, rfl, v, st, rfl, hv4.same s5, _, _, rfl, rfl, _, rfl, ite2 (fun g => ?_) (fun g => skip ?_)⟩
        · have g : r.2 < numR st := of_decide_eq_true g
          have fp : fewP st r = true := by
            unfold fewP
            rw [decide_eq_true e, decide_eq_true g]
            rfl
          refine ⟨_, rfl, (by show 2 ≤ sizeLine; decide), fun n nn => ⟨_, same_upd nn _ _ hF, small (by omega), same_grow nF (s5.trans (same_upd nn)), _, upd_same, ?_, fun x hx => ?_⟩⟩
          · rw [List.length_append, ly, List.filter_cons, if_pos fp]
            rfl
          · rcases List.mem_append.mp hx with h | h
            · exact rf x h
            · exact ⟨n, List.mem_singleton.mp h⟩
        · have g : ¬ r.2 < numR st := fun z => g (decide_eq_true z)
          unfold fewP
          rw [decide_eq_false g, Bool.and_false]
      · have e : ¬ V.str r.1 = kdV st := fun z => e (decide_eq_true z)
        unfold fewP
        rw [decide_eq_false e, Bool.false_and]
    · obtain ⟨s5, hF⟩ := p
      rw [lx, List.take_length] at hF
      have lf := List.length_filter_le (fewP st) cs
      obtain ⟨fs, hfs, lfs, rfs⟩ := hF
      obtain ⟨ps, hps, lps, rps⟩ := hpp.same s5
      refine ⟨_, rfl, _, rfl, F, pp, _, _, rfl, rfl, hfs, hps, Nat.le_of_lt (small (by omega)), fun q1 nq1 => ?_⟩
      have s6 := same_upd (o := .lst (fs ++ ps)) nq1
      have sC := sB.trans (s5.trans s6)
      have free : ∀ {p : Addr}, (upd H5 q1 (.lst (fs ++ ps))) p = none → H p = none := fun z => sC.free z
      refine ⟨_, rfl, !fs.isEmpty, .inl ⟨fs, .of (s6 _ _ hfs), rfl⟩, ?_⟩
      have hm : (majR (cwR cs st)).length ≤ 12 := by
        unfold majR
        have := List.length_filter_le (fun r : Run => decide (lenR (cwR cs st) < 2 * r.2)) (cwR cs st)
        rw [cw_len] at this
        omega
      by_cases fe : fs = []
      · refine iteN (by rw [fe]; rfl) ⟨_, rfl, p2, _, rfl, (h4.same s5).same s6, by rw [cw_len]; exact l12, fun H7 p7 s7 n7 h7 => ?_⟩
        obtain ⟨ms, hms, lms, rms⟩ := h7
        refine ⟨q1, p7, _, _, rfl, rfl, s7 _ _ upd_same, hms, Nat.le_of_lt (small (by rw [List.length_append]; omega)), fun p np => ?_⟩
        have s8 := same_upd (o := .lst ((fs ++ ps) ++ ms)) np
        refine q _ p _ (sC.trans (s7.trans s8)) (sC.free (s7.free np)) ⟨_, upd_same, rfl, fun x hx => ?_⟩ ?_
        · rcases List.mem_append.mp hx with h | h
          · rcases List.mem_append.mp h with h | h
            · exact rfs x h
            · exact rps x h
          · exact rms x h
        · have := can_iff (f := fs.length) (k := k) kn lfs rfl hk
          rw [List.length_append, List.length_append, lps, lms, ← this, if_pos (by rw [fe]; rfl)]
      · have ne : (!fs.isEmpty) = true := by
          cases fs with
          | nil => exact absurd rfl fe
          | cons y ys => rfl
        refine iteP ne ⟨Nat.zero_le _, fun e1 ne1 => ?_⟩
        have s7 := same_upd (o := .lst []) ne1
        refine ⟨q1, e1, _, _, rfl, rfl, s7 _ _ upd_same, upd_same, Nat.le_of_lt (small (by rw [List.length_append, List.length_nil]; omega)), fun p np => ?_⟩
        have s8 := same_upd (o := .lst ((fs ++ ps) ++ [])) np
        refine q _ p _ (sC.trans (s7.trans s8)) (sC.free (s7.free np)) ⟨_, upd_same, rfl, fun x hx => ?_⟩ ?_
        · rw [List.append_nil] at hx
          rcases List.mem_append.mp hx with h | h
          · exact rfs x h
          · exact rps x h
        · have := can_iff (f := fs.length) (k := k) kn lfs rfl hk
          rw [List.append_nil, List.length_append, lps, ← this, if_neg (fun z => fe (List.length_eq_zero_iff.mp z)), Nat.add_zero]
/-! reason_against: slots 0:counts 1:state 2:reasons -/
abbrev s_reason_against : Stmt := topS 36
theorem sc_reason_against : FnScope ["counts", "state", "reasons"] ["counts", "state"] (defScope s_reason_against) := ⟨rfl, rfl, rfl, by decide +kernel, rfl, by decide +kernel, by decide +kernel⟩
def sp_reason_against : Sp := fun vs H Q _ => ∃ (v u : V) (cs : List Run) (st : Option Run), vs = [v, u] ∧ RunsG H v cs ∧ CtOk cs ∧ StG H u st ∧ StOk st ∧ (CanR cs st → ∀ H', Same H H' → Q .non H') ∧ (¬ CanR cs st → ∀ H' t, Same H H' → Q (.ref t) H')
theorem ok_reason_against (D : Df K mg "reason_against" s_reason_against) (T : Tx mg) (G_checked_counts : Has P w K mg base 5 "checked_counts" ["counts"] sp_checked_counts) (G_checked_state : Has P w K mg base 3 "checked_state" ["state"] sp_checked_state) (G_reasons_in : Has P w K mg base 3 "reasons_in" ["counts", "state"] sp_reasons_in) : Has P w K mg base 6 "reason_against" ["counts", "state"] sp_reason_against := by
  refine has_of D sc_reason_against (fun _ _ _ _ _ _ us hl => match us, hl with | [_, _], _ => rfl) (fun vs H Q E h => ?_) (fun f cdv A outer s H vs Q E hr h => ?_)
  · obtain ⟨_, _, _, _, rfl, _⟩ := h
    rfl
  · obtain ⟨v, u, cs, st, rfl, hR, ok, hu, ks, qY, qN⟩ := h
    refine ⟨_, (pss_cons (ps_set (i := 0) sc_reason_against.nd rfl (by first | exact Or.inl rfl | exact Or.inr rfl) (pe_callH G_checked_counts (hr.mono (by omega)) (by rfl) (pa_cons (pv 0) pa_nil)))
    (pss_cons (ps_set (i := 2) sc_reason_against.nd rfl (by first | exact Or.inl rfl | exact Or.inr rfl) (pe_callH G_reasons_in (hr.mono (by omega)) (by rfl) (pa_cons (pv 0) (pa_cons (pe_callH G_checked_state (hr.mono (by omega)) (by rfl) (pa_cons (pv 1) pa_nil)) pa_nil))))
    (pss_one (ps_ret (pe_ifExp (pt_truth (pv 2) (by intro _; rfl)) (pe_ix ix_list (pv 2) pe_int (fun _ _ => rfl)) pe_non))))), ?_⟩
    refine ⟨_, rfl, v, cs, rfl, hR, ok, fun H1 p1 s1 n1 h1 => ?_⟩
    refine ⟨_, rfl, _, rfl, u, st, rfl, hu.same s1, ks, fun H2 v2 s2 h2 => ?_⟩
    refine ⟨p1, cs, v2, st, rfl, h1.same s2, ok.1, h2, fun H3 p3 n3 s3 f3 r3 iff => ?_⟩
    have sA := s1.trans (s2.trans s3)
    obtain ⟨xs, hx, lx, rx⟩ := r3
    refine ⟨_, rfl, !xs.isEmpty, .inl ⟨xs, .of hx, rfl⟩, ?_⟩
    cases hxs : xs with
    | nil =>
      rw [hxs] at lx
      exact iteN rfl (qY (iff.mp lx.symm) _ sA)
    | cons y ys =>
      obtain ⟨t, et⟩ := rx y (by rw [hxs]; exact List.mem_cons_self ..)
      rw [hxs] at lx hx
      subst et
      refine iteP rfl ⟨_, rfl, p3, _, 0, _, rfl, rfl, .of hx, atI_ofR (Int.le_refl _) rfl, qN (fun c => ?_) _ t sA⟩
      have := iff.mpr c
      rw [List.length_cons] at lx
      omega
/-! can_remain: slots 0:counts 1:state -/
abbrev s_can_remain : Stmt := topS 35
theorem sc_can_remain : FnScope ["counts", "state"] ["counts", "state"] (defScope s_can_remain) := ⟨rfl, rfl, rfl, by decide +kernel, rfl, by decide +kernel, by decide +kernel⟩
def sp_can_remain : Sp := fun vs H Q _ => ∃ (v u : V) (cs : List Run) (st : Option Run), vs = [v, u] ∧ RunsG H v cs ∧ CtOk cs ∧ StG H u st ∧ StOk st ∧ (CanR cs st → ∀ H', Same H H' → Q (.bl true) H') ∧ (¬ CanR cs st → ∀ H', Same H H' → Q (.bl false) H')
theorem ok_can_remain (D : Df K mg "can_remain" s_can_remain) (G_reason_against : Has P w K mg base 6 "reason_against" ["counts", "state"] sp_reason_against) : Has P w K mg base 7 "can_remain" ["counts", "state"] sp_can_remain := by
  refine has_of D sc_can_remain (fun _ _ _ _ _ _ us hl => match us, hl with | [_, _], _ => rfl) (fun vs H Q E h => ?_) (fun f cdv A outer s H vs Q E hr h => ?_)
  · obtain ⟨_, _, _, _, rfl, _⟩ := h
    rfl
  · obtain ⟨v, u, cs, st, rfl, hR, ok, hu, ks, qY, qN⟩ := h
    refine ⟨_, (pss_one (ps_ret (pe_cmpR op_isN (pe_callH G_reason_against (hr.mono (by omega)) (by rfl) (pa_cons (pv 0) (pa_cons (pv 1) pa_nil))) pe_non (nomark _)))), ?_⟩
    exact ⟨_, rfl, _, rfl, v, u, cs, st, rfl, hR, ok, hu, ks, (fun c H' s' => ⟨rfl, qY c _ s'⟩), (fun c H' t s' => ⟨rfl, qN c _ s'⟩)⟩
end
end UP

set_option Elab.async false
set_option linter.all false
set_option maxRecDepth 100000
set_option maxHeartbeats 4000000
namespace UP
open PySem PySem.Spec PyProof.Rows L2
/-! ### ranges -/
def ownR (cs : List Run) (k : Str) : Int := lenR (cs.filter fun r => decide (V.str r.1 = V.str k))
def lgR : List Run → Str → Int
  | [], _ => 0
  | r :: t, k => if r.1 = k then lgR t k else if lgR t k < r.2 then r.2 else lgR t k
theorem lg_nn : ∀ (cs : List Run) (k : Str), 0 ≤ lgR cs k
  | [], _ => Int.le_refl _
  | r :: t, k => by
    have := lg_nn t k
    show 0 ≤ if r.1 = k then lgR t k else if lgR t k < r.2 then r.2 else lgR t k
    split
    · exact this
    · split <;> omega
theorem lg_ub : ∀ (cs : List Run) (k : Str), ∀ r ∈ cs, r.1 ≠ k → r.2 ≤ lgR cs k
  | [], _, r, h, _ => by cases h
  | x :: t, k, r, h, n => by
    show r.2 ≤ if x.1 = k then lgR t k else if lgR t k < x.2 then x.2 else lgR t k
    rcases List.mem_cons.mp h with e | e
    · subst e
      rw [if_neg n]
      split <;> omega
    · have := lg_ub t k r e n
      split
      · exact this
      · split <;> omega
theorem lg_mem : ∀ (cs : List Run) (k : Str), lgR cs k = 0 ∨ ∃ r ∈ cs, r.1 ≠ k ∧ r.2 = lgR cs k
  | [], _ => .inl rfl
  | x :: t, k => by
    have ih := lg_mem t k
    have e : lgR (x :: t) k = if x.1 = k then lgR t k else if lgR t k < x.2 then x.2 else lgR t k := rfl
    rw [e]
    have up : (lgR t k = 0 ∨ ∃ r ∈ t, r.1 ≠ k ∧ r.2 = lgR t k) → lgR t k = 0 ∨ ∃ r ∈ x :: t, r.1 ≠ k ∧ r.2 = lgR t k := fun h => h.elim .inl fun ⟨r, hr, h⟩ => .inr ⟨r, List.mem_cons_of_mem _ hr, h⟩
    by_cases c : x.1 = k
    · rw [if_pos c]
      exact up ih
    · rw [if_neg c]
      by_cases d : lgR t k < x.2
      · rw [if_pos d]
        exact .inr ⟨x, List.mem_cons_self .., c, rfl⟩
      · rw [if_neg d]
        exact up ih
def leR (cs : List Run) (k : Str) : Int := if 2 - lenR cs % 2 > 2 * ownR cs k - lenR cs then 2 - lenR cs % 2 else 2 * ownR cs k - lenR cs
def moR (cs : List Run) (k : Str) : Int := if lenR cs - 2 * lgR cs k < ownR cs k - (lenR cs - ownR cs k) % 2 then lenR cs - 2 * lgR cs k else ownR cs k - (lenR cs - ownR cs k) % 2
def rgO (cs : List Run) (k : Str) : Option (Int × Int) := if leR cs k ≤ moR cs k then some (leR cs k, moR cs k) else none
/-! ### one kind among them -/
theorem asc_lt : ∀ {cs : List Run}, Asc cs → ∀ (i j : Nat) (x y : Run), i < j → cs[i]? = some x → cs[j]? = some y → x.1.cps.toList < y.1.cps.toList := by
  intro cs h i j x y lt hx hy
  induction j generalizing y with
  | zero => omega
  | succ j ih =>
    have hj : j < cs.length := by
      have := (List.getElem?_eq_some_iff.mp hy).1
      omega
    by_cases e : i = j
    · subst e
      exact h i x y hx hy
    · have h1 := ih (cs[j]) (by omega) (List.getElem?_eq_getElem hj)
      exact List.lt_trans h1 (h j _ y (List.getElem?_eq_getElem hj) hy)
theorem asc_ne {cs : List Run} (h : Asc cs) {i j : Nat} {x y : Run} (ne : i ≠ j) (hx : cs[i]? = some x) (hy : cs[j]? = some y) : x.1 ≠ y.1 := by
  intro e
  rcases Nat.lt_or_gt_of_ne ne with lt | lt
  · have := asc_lt h i j x y lt hx hy
    rw [e] at this
    exact List.lt_irrefl _ this
  · have := asc_lt h j i y x lt hy hx
    rw [e] at this
    exact List.lt_irrefl _ this
/-- the counts around one kind -/
structure Split (cs : List Run) (k : Str) (pre : List Run) (c : Int) (post : List Run) : Prop where
  eq : cs = pre ++ (k, c) :: post
  pre : ∀ r ∈ pre, r.1 ≠ k
  post : ∀ r ∈ post, r.1 ≠ k
theorem split_of {cs : List Run} (h : Asc cs) {r : Run} (hr : r ∈ cs) : ∃ pre post, Split cs r.1 pre r.2 post := by
  obtain ⟨i, hi, e⟩ := List.mem_iff_getElem.mp hr
  have hx : cs[i]? = some r := by rw [List.getElem?_eq_getElem hi, e]
  refine ⟨cs.take i, cs.drop (i + 1), ?_, fun x hx2 => ?_, fun x hx2 => ?_⟩
  · have := List.take_append_drop i cs
    rw [List.drop_eq_getElem_cons hi, e] at this
    exact this.symm
  · obtain ⟨j, hj, ej⟩ := List.mem_iff_getElem.mp hx2
    rw [List.length_take] at hj
    have : cs[j]? = some x := by
      rw [← ej, List.getElem?_eq_getElem (by omega), List.getElem_take]
    exact asc_ne h (by omega) this hx
  · obtain ⟨j, hj, ej⟩ := List.mem_iff_getElem.mp hx2
    rw [List.length_drop] at hj
    have : cs[i + 1 + j]? = some x := by
      rw [← ej, List.getElem?_eq_getElem (by omega), List.getElem_drop]
    exact asc_ne h (by omega) this hx
theorem own_none : ∀ {l : List Run} {k : Str}, (∀ r ∈ l, r.1 ≠ k) → l.filter (fun r => decide (V.str r.1 = V.str k)) = [] := by
  intro l k h
  rw [List.filter_eq_nil_iff]
  intro r hr z
  exact h r hr (V.str.inj (of_decide_eq_true z))
theorem Split.own {cs : List Run} {k : Str} {pre post : List Run} {c : Int} (h : Split cs k pre c post) : ownR cs k = c := by
  unfold ownR
  rw [h.eq, List.filter_append, List.filter_cons, if_pos (decide_eq_true rfl), own_none h.pre, own_none h.post, List.nil_append, lenR_cons, lenR_nil]
  show c + 0 = c
  omega
theorem Split.tot {cs : List Run} {k : Str} {pre post : List Run} {c : Int} (h : Split cs k pre c post) : lenR cs = lenR pre + c + lenR post := by
  rw [h.eq, lenR_app, lenR_cons]
  show lenR pre + (c + lenR post) = _
  omega
theorem cw_none {l : List Run} {k : Str} {n : Int} (h : ∀ r ∈ l, r.1 ≠ k) : cwR l (some (k, n)) = l := by
  unfold cwR
  have : ∀ r ∈ l, (r.1, if kdV (some (k, n)) = .str r.1 then r.2 - numR (some (k, n)) else r.2) = r := fun r hr => by
    rw [if_neg (show ¬ kdV (some (k, n)) = .str r.1 from fun z => h r hr (V.str.inj z).symm)]
  rw [List.map_congr_left this, List.map_id']
theorem Split.cw {cs : List Run} {k : Str} {pre post : List Run} {c n : Int} (h : Split cs k pre c post) : cwR cs (some (k, n)) = pre ++ (k, c - n) :: post := by
  have e : cwR cs (some (k, n)) = cwR pre (some (k, n)) ++ (k, if kdV (some (k, n)) = .str k then c - numR (some (k, n)) else c) :: cwR post (some (k, n)) := by
    rw [h.eq]
    unfold cwR
    rw [List.map_append, List.map_cons]
  rw [e, cw_none h.pre, cw_none h.post, if_pos (show kdV (some (k, n)) = .str k from rfl)]
  rfl
theorem Split.lenc {cs : List Run} {k : Str} {pre post : List Run} {c n : Int} (h : Split cs k pre c post) : lenR (cwR cs (some (k, n))) = lenR cs - n := by
  rw [h.cw, h.tot, lenR_app, lenR_cons]
  show lenR pre + (c - n + lenR post) = _
  omega
/-- which numbers of a kind can remain -/
theorem Split.can {cs : List Run} {k : Str} {pre post : List Run} {c n : Int} (h : Split cs k pre c post) (n1 : 1 ≤ n) : CanR cs (some (k, n)) ↔ n ≤ c ∧ (lenR cs - n) % 2 = 0 ∧ 2 * (c - n) ≤ lenR cs - n ∧ ∀ r ∈ cs, r.1 ≠ k → 2 * r.2 ≤ lenR cs - n := by
  unfold CanR
  rw [h.lenc]
  constructor
  · rintro ⟨_, h2, h3, h4⟩
    refine ⟨h2 (k, c) (by rw [h.eq]; exact List.mem_append.mpr (.inr (List.mem_cons_self ..))) rfl, h3, ?_, fun r hr rk => ?_⟩
    · have := h4 (k, c - n) (by rw [h.cw]; exact List.mem_append.mpr (.inr (List.mem_cons_self ..)))
      exact this
    · refine h4 r ?_
      rw [h.cw]
      rw [h.eq] at hr
      rcases List.mem_append.mp hr with z | z
      · exact List.mem_append.mpr (.inl z)
      · rcases List.mem_cons.mp z with z | z
        · rw [z] at rk
          exact absurd rfl rk
        · exact List.mem_append.mpr (.inr (List.mem_cons_of_mem _ z))
  · rintro ⟨h1, h2, h3, h4⟩
    refine ⟨fun r e => ?_, fun r hr e => ?_, h2, fun r hr => ?_⟩
    · cases e
      rw [h.eq, List.map_append, List.map_cons]
      exact List.mem_append.mpr (.inr (List.mem_cons_self ..))
    · have e : k = r.1 := V.str.inj e
      show n ≤ r.2
      rw [h.eq] at hr
      rcases List.mem_append.mp hr with z | z
      · exact absurd e.symm (h.pre r z)
      · rcases List.mem_cons.mp z with z | z
        · rw [z]
          exact h1
        · exact absurd e.symm (h.post r z)
    · rw [h.cw] at hr
      have inr : ∀ r, r ∈ pre ∨ r ∈ post → r ∈ cs := fun r z => by
        rw [h.eq]
        exact z.elim (fun z => List.mem_append.mpr (.inl z)) (fun z => List.mem_append.mpr (.inr (List.mem_cons_of_mem _ z)))
      rcases List.mem_append.mp hr with z | z
      · exact h4 r (inr r (.inl z)) (h.pre r z)
      · rcases List.mem_cons.mp z with z | z
        · rw [z]
          exact h3
        · exact h4 r (inr r (.inr z)) (h.post r z)
theorem len_ge {l : List Run} (h : ∀ r ∈ l, 1 ≤ r.2) : 0 ≤ lenR l := lenR_nn h
/-- the range of a kind says which of its numbers can remain -/
theorem Split.range {cs : List Run} {k : Str} {pre post : List Run} {c n : Int} (h : Split cs k pre c post) (pos : ∀ r ∈ cs, 1 ≤ r.2) (n1 : 1 ≤ n) : CanR cs (some (k, n)) ↔ leR cs k ≤ n ∧ n ≤ moR cs k ∧ (lenR cs - n) % 2 = 0 := by
  rw [h.can n1]
  unfold leR moR
  rw [h.own]
  have lg : (∀ r ∈ cs, r.1 ≠ k → 2 * r.2 ≤ lenR cs - n) ↔ (2 * lgR cs k ≤ lenR cs - n ∨ (lgR cs k = 0 ∧ ∀ r ∈ cs, r.1 ≠ k → 2 * r.2 ≤ lenR cs - n)) := by
    constructor
    · intro z
      rcases lg_mem cs k with e | ⟨r, hr, rk, e⟩
      · exact .inr ⟨e, z⟩
      · have := z r hr rk
        exact .inl (by omega)
    · intro z
      rcases z with z | z
      · intro r hr rk
        have := lg_ub cs k r hr rk
        omega
      · exact z.2
  have tp : 0 ≤ lenR pre + lenR post := by
    have h1 := len_ge (l := pre) fun r hr => pos r (by rw [h.eq]; exact List.mem_append.mpr (.inl hr))
    have h2 := len_ge (l := post) fun r hr => pos r (by rw [h.eq]; exact List.mem_append.mpr (.inr (List.mem_cons_of_mem _ hr)))
    omega
  have ht := h.tot
  constructor
  · rintro ⟨h1, h2, h3, h4⟩
    have h5 : 2 * lgR cs k ≤ lenR cs - n := by
      rcases lg.mp h4 with z | ⟨z, _⟩
      · exact z
      · omega
    refine ⟨?_, ?_, h2⟩
    · split <;> omega
    · split <;> omega
  · rintro ⟨h1, h2, h3⟩
    have h5 : 2 * lgR cs k ≤ lenR cs - n := by
      split at h2 <;> omega
    refine ⟨?_, h3, ?_, lg.mpr (.inl h5)⟩
    · split at h2 <;> omega
    · split at h1 <;> omega
theorem le_pos {cs : List Run} {k : Str} : 1 ≤ leR cs k := by
  unfold leR
  split <;> omega
theorem le_par {cs : List Run} {k : Str} : (lenR cs - leR cs k) % 2 = 0 := by
  unfold leR
  split <;> omega
theorem mo_par {cs : List Run} {k : Str} : (lenR cs - moR cs k) % 2 = 0 := by
  unfold moR
  split <;> omega
section
variable {P : Program} {w : World} {K : PySem.W.Frag} {mg : Str → Option Value} {base : Heap}
/-! range_in: slots 0:counts 1:kind 2:own 3:total 4:largest 5:least 6:most 7:entry 8:each 9:count -/
abbrev s_range_in : Stmt := topS 34
theorem sc_range_in : FnScope ["counts", "kind", "own", "total", "largest", "least", "most", "entry", "each", "count"] ["counts", "kind"] (defScope s_range_in) := ⟨rfl, rfl, rfl, by decide +kernel, rfl, by decide +kernel, by decide +kernel⟩
def sp_range_in : Sp := fun vs H Q _ => ∃ (a : Addr) (cs : List Run) (k : Str), vs = [.ref a, .str k] ∧ Runs H a cs ∧ cs.length ≤ 12 ∧ (rgO cs k = none → ∀ H', Same H H' → Q .non H') ∧ (∀ x y, rgO cs k = some (x, y) → ∀ H' t, Same H H' → H' t = some (.tup [.int x, .int y]) → Q (.ref t) H')
theorem ok_range_in (D : Df K mg "range_in" s_range_in) (T : Tx mg) (G_length_of : Has P w K mg base 1 "length_of" ["runs"] sp_length_of) : Has P w K mg base 2 "range_in" ["counts", "kind"] sp_range_in := by
  refine has_of D sc_range_in (fun _ _ _ _ _ _ us hl => match us, hl with | [_, _], _ => rfl) (fun vs H Q E h => ?_) (fun f cdv A outer s H vs Q E hr h => ?_)
  · obtain ⟨_, _, _, rfl, _⟩ := h
    rfl
  · obtain ⟨a, cs, k, rfl, hR, l12, qN, qS⟩ := h
    have hR0 := hR
    obtain ⟨xs, hx, hp⟩ := hR
    have lx : xs.length = cs.length := Paired.len hp
    refine ⟨_, (pss_cons (ps_set (i := 2) sc_range_in.nd rfl (by first | exact Or.inl rfl | exact Or.inr rfl) (pe_callH G_length_of (hr.mono (by omega)) (by rfl) (pa_cons (pe_lc (own := [("entry", 7)]) rfl sc_range_in.nd (pi_list (pv 0)) (blkOk_by (N := ["counts", "kind", "own", "total", "largest", "least", "most", "entry", "each", "count"]) (sc := defScope s_range_in) (by decide +kernel)) (fun _ _ _ _ _ => (pg_name (i := 7) sc_range_in.nd rfl (by first | exact Or.inl rfl | exact Or.inr rfl))) (fun _ _ _ _ _ => pts_one (pt_cmpR op_eq (pe_ix (ix_tupK (K := K) rfl) (pv 7) pe_int (fun _ _ => rfl)) (pv 1) (nomark _))) (fun _ _ _ _ _ => (pv 7))) pa_nil)))
    (pss_cons (ps_set (i := 3) sc_range_in.nd rfl (by first | exact Or.inl rfl | exact Or.inr rfl) (pe_callH G_length_of (hr.mono (by omega)) (by rfl) (pa_cons (pv 0) pa_nil)))
    (pss_cons (ps_set (i := 4) sc_range_in.nd rfl (by first | exact Or.inl rfl | exact Or.inr rfl) (pe_callB (cr_max rfl) (by rfl) T.n_max (by decide +kernel) (pa_cons (pe_op op_cat (pe_lst (pa_cons pe_int pa_nil)) (pe_lc (own := [("each", 8), ("count", 9)]) rfl sc_range_in.nd (pi_list (pv 0)) (blkOk_by (N := ["counts", "kind", "own", "total", "largest", "least", "most", "entry", "each", "count"]) (sc := defScope s_range_in) (by decide +kernel)) (fun _ _ _ _ _ => (pg_tupK (K := K) (n := 2) rfl rfl (pgs_cons (pg_name (i := 8) sc_range_in.nd rfl (by first | exact Or.inl rfl | exact Or.inr rfl)) (pgs_cons (pg_name (i := 9) sc_range_in.nd rfl (by first | exact Or.inl rfl | exact Or.inr rfl)) pgs_nil)))) (fun _ _ _ _ _ => pts_one (pt_cmpR op_ne (pv 8) (pv 1) (nomark _))) (fun _ _ _ _ _ => (pv 9)))) pa_nil)))
    (pss_cons (ps_set (i := 5) sc_range_in.nd rfl (by first | exact Or.inl rfl | exact Or.inr rfl) (pe_callB (call_max2 rfl) (by rfl) T.n_max (by decide +kernel) (pa_cons (pe_op op_sub (pe_op op_mul pe_int (pv 2)) (pv 3)) (pa_cons (pe_op op_sub pe_int (pe_op op_mod (pv 3) pe_int)) pa_nil))))
    (pss_cons (ps_set (i := 6) sc_range_in.nd rfl (by first | exact Or.inl rfl | exact Or.inr rfl) (pe_callB (call_min2 rfl) (by rfl) T.n_min (by decide +kernel) (pa_cons (pe_op op_sub (pv 2) (pe_op op_mod (pe_op op_sub (pv 3) (pv 2)) pe_int)) (pa_cons (pe_op op_sub (pv 3) (pe_op op_mul pe_int (pv 4))) pa_nil))))
    (pss_one (ps_ret (pe_ifExp (pt_cmpR op_le (pv 5) (pv 6) (nomark _)) (pe_tup (pa_cons (pv 5) (pa_cons (pv 6) pa_nil))) pe_non)))))))), ?_⟩
    refine ⟨_, rfl, a, rfl, ⟨xs, .of hx⟩, fun L nL => lc_list (K := K) (a := a) (xs := xs) (fun i H' => Same H H' ∧ Runs H' L ((cs.take i).filter fun r => decide (V.str r.1 = V.str k))) ⟨same_upd nL, [], upd_same, .nil⟩ (fun i H' _ p => .of (p.1 _ _ hx)) (fun i x H1 ex p => ?_) (fun H1 p => ?_)⟩
    · obtain ⟨s1, ys, hL, hy⟩ := p
      obtain ⟨r, er, hr1⟩ := Paired.at hp ex
      have hi : i < xs.length := (List.getElem?_eq_some_iff.mp ex).1
      have hr2 := RunV.same s1 hr1
      obtain ⟨t, rfl, ht⟩ := id hr2
      have ly := Paired.len hy
      have lf := List.length_filter_le (fun r : Run => decide (V.str r.1 = V.str k)) (cs.take i)
      rw [List.length_take] at lf
      rw [take_snoc er, List.filter_append]
      refine ⟨rfl, _, rfl, t, _, 0, _, rfl, rfl, .of ht, at0, _, rfl, rfl, _, rfl, ite2 (fun e => ?_) (fun e => ?_)⟩
      · refine ⟨_, rfl, ys, hL, small (by omega), same_grow nL s1, _, upd_same, ?_⟩
        rw [List.filter_cons, if_pos e]
        exact Paired.app (prs_grow hL hy) (.cons (RunV.grow hL hr2) .nil)
      · rw [List.filter_cons, if_neg e]
        exact ⟨s1, ys, hL, by rw [List.filter_nil, List.append_nil]; exact hy⟩
    obtain ⟨s1, hL⟩ := p
    rw [lx, List.take_length] at hL
    have lf := List.length_filter_le (fun r : Run => decide (V.str r.1 = V.str k)) cs
    refine ⟨L, _, rfl, hL, by omega, fun H2 s2 => ?_⟩
    have s2 := s1.trans s2
    refine ⟨_, rfl, a, cs, rfl, hR0.same s2, by omega, fun H3 s3 => ?_⟩
    have s3 := s2.trans s3
    have hx3 := s3 _ _ hx
    refine ⟨(by show 1 ≤ sizeLine; decide), fun o no => ?_⟩
    have so := same_upd (o := .lst [.int 0]) no
    have s4 := s3.trans so
    have hx4 := so _ _ hx3
    have ho : (upd H3 o (.lst [.int 0])) o = some (.lst [.int 0]) := upd_same
    generalize upd H3 o (.lst [.int 0]) = H4 at *
    refine ⟨_, rfl, a, rfl, ⟨xs, .of hx4⟩, fun M nM => lc_list (K := K) (a := a) (xs := xs) (fun i H' => Same H4 H' ∧ H' M = some (.lst ((((cs.take i).filter fun r => !decide (V.str r.1 = V.str k)).map (·.2)).map V.int))) ⟨same_upd nM, upd_same⟩ (fun i H' _ p => .of (p.1 _ _ hx4)) (fun i x H5 ex p => ?_) (fun H5 p => ?_)⟩
    · obtain ⟨s5, hM⟩ := p
      obtain ⟨r, er, hr1⟩ := Paired.at hp ex
      have hi : i < xs.length := (List.getElem?_eq_some_iff.mp ex).1
      obtain ⟨t, rfl, ht⟩ := RunV.same (s4.trans s5) hr1
      have lf := List.length_filter_le (fun r : Run => !decide (V.str r.1 = V.str k)) (cs.take i)
      rw [List.length_take] at lf
      rw [take_snoc er, List.filter_append]
      refine ⟨t, _, rfl, .of ht, rfl, _, _, rfl, _, _, rfl, rfl, rfl, _, rfl, _, rfl, rfl, _, rfl, ite2 (fun e => ?_) (fun e => ?_)⟩
      · refine ⟨_, rfl, _, hM, ?_, same_grow nM s5, ?_⟩
        · rw [List.length_map, List.length_map]
          exact small (by omega)
        · rw [upd_same, List.filter_cons, if_pos e, List.map_append, List.map_append]
          rfl
      · rw [List.filter_cons, if_neg e]
        exact ⟨s5, by rw [List.filter_nil, List.append_nil]; exact hM⟩
    obtain ⟨s5, hM⟩ := p
    rw [lx, List.take_length] at hM
    have lm := List.length_filter_le (fun r : Run => !decide (V.str r.1 = V.str k)) cs
    refine ⟨o, M, _, _, rfl, rfl, s5 _ _ ho, hM, ?_, fun z nz => ?_⟩
    · rw [List.length_map, List.length_map]
      show 1 + _ ≤ sizeLine
      exact Nat.le_of_lt (small (by omega))
    have s6 := (s4.trans s5).trans (same_upd (o := .lst ([.int 0] ++ ((cs.filter fun r => !decide (V.str r.1 = V.str k)).map (·.2)).map V.int)) nz)
    refine ⟨z, 0 :: ((cs.filter fun r => !decide (V.str r.1 = V.str k)).map (·.2)), rfl, SqL.of upd_same, Nat.succ_pos _, fun mx h1 h2 => ?_⟩
    have emx : mx = lgR cs k := by
      have u1 : lgR cs k ≤ mx := by
        rcases lg_mem cs k with e | ⟨r, hr, rk, e⟩
        · rw [e]
          exact h2 0 (List.mem_cons_self ..)
        · rw [← e]
          refine h2 r.2 (List.mem_cons_of_mem _ (List.mem_map.mpr ⟨r, List.mem_filter.mpr ⟨hr, ?_⟩, rfl⟩))
          rw [decide_eq_false (fun z => rk (V.str.inj z))]
          rfl
      have u2 : mx ≤ lgR cs k := by
        rcases List.mem_cons.mp h1 with e | e
        · rw [e]
          exact lg_nn cs k
        · obtain ⟨r, hr, e⟩ := List.mem_map.mp e
          obtain ⟨hr1, hr2⟩ := List.mem_filter.mp hr
          rw [← e]
          refine lg_ub cs k r hr1 fun z => ?_
          rw [decide_eq_true (by show V.str r.1 = V.str k; rw [z])] at hr2
          cases hr2
      omega
    subst emx
    refine ⟨_, rfl, _, _, rfl, rfl, .inl ⟨by decide, by decide⟩, _, rfl, _, _, rfl, rfl, _, rfl, _, _, rfl, rfl, (by show (0 : Int) < 2; decide), _, _, rfl, rfl, _, _, rfl, ?_⟩
    refine ⟨_, rfl, _, rfl, _, rfl, _, _, rfl, rfl, _, _, rfl, rfl, (by show (0 : Int) < 2; decide), _, _, rfl, rfl, _, rfl, _, rfl, _, _, rfl, rfl, .inl ⟨by decide, by decide⟩, _, _, rfl, rfl, _, _, rfl, ?_⟩
    have e5 : (if 2 - lenR cs % 2 > 2 * lenR (cs.filter fun r => decide (V.str r.1 = V.str k)) - lenR cs then 2 - lenR cs % 2 else 2 * lenR (cs.filter fun r => decide (V.str r.1 = V.str k)) - lenR cs) = leR cs k := rfl
    have e6 : (if lenR cs - 2 * lgR cs k < lenR (cs.filter fun r => decide (V.str r.1 = V.str k)) - (lenR cs - lenR (cs.filter fun r => decide (V.str r.1 = V.str k))) % 2 then lenR cs - 2 * lgR cs k else lenR (cs.filter fun r => decide (V.str r.1 = V.str k)) - (lenR cs - lenR (cs.filter fun r => decide (V.str r.1 = V.str k))) % 2) = moR cs k := rfl
    dsimp only
    rw [e5, e6]
    refine ⟨_, rfl, _, rfl, _, _, rfl, rfl, _, rfl, ite2 (fun e => ?_) (fun e => ?_)⟩
    · have e : leR cs k ≤ moR cs k := of_decide_eq_true e
      exact ⟨_, rfl, _, rfl, (by show 2 ≤ sizeLine; decide), fun t nt => qS _ _ (if_pos e) _ t (s6.trans (same_upd nt)) upd_same⟩
    · have e : ¬ leR cs k ≤ moR cs k := fun z => e (decide_eq_true z)
      exact qN (if_neg e) _ s6
end
end UP

set_option Elab.async false
set_option linter.all false
set_option maxRecDepth 100000
set_option maxHeartbeats 4000000
namespace UP
open PySem PySem.Spec PyProof.Rows L2
open Classical in
noncomputable def c1R (cs : List Run) : Int := if CanR cs none then 1 else 0
theorem c1_yes {cs : List Run} (h : CanR cs none) : c1R cs = 1 := by
  unfold c1R
  rw [if_pos h]
theorem c1_no {cs : List Run} (h : ¬ CanR cs none) : c1R cs = 0 := by
  unfold c1R
  rw [if_neg h]
def cntR (cs : List Run) (k : Str) : Int := match rgO cs k with
  | none => 0
  | some x => (x.2 - x.1) / 2 + 1
theorem asc_of {ks : List Str} (l1 : ks.length ≤ 12) (ok : ∀ k ∈ ks, KindOk k) (nd : ks.Nodup ∧ sortedS ks = true) : ∀ (i : Nat) (x y : Str), ks[i]? = some x → ks[i + 1]? = some y → x.cps.toList < y.cps.toList := by
  intro i x y hx hy
  have : 0 < ks.length := by
    have := (List.getElem?_eq_some_iff.mp hx).1
    omega
  exact (ks_of this l1 ok nd).2.2.2 i x y hx hy
section
variable {P : Program} {w : World} {K : PySem.W.Frag} {mg : Str → Option Value} {base : Heap}
/-! check_kind: slots 0:kind -/
abbrev s_check_kind : Stmt := topS 19
theorem sc_check_kind : FnScope ["kind"] ["kind"] (defScope s_check_kind) := ⟨rfl, rfl, rfl, by decide +kernel, rfl, by decide +kernel, by decide +kernel⟩
def sp_check_kind : Sp := fun vs H Q _ => ∃ k : Str, vs = [.str k] ∧ KindOk k ∧ ∀ H', Same H H' → Q .non H'
theorem ok_check_kind (D : Df K mg "check_kind" s_check_kind) (G_is_kind : Has P w K mg base 1 "is_kind" ["value"] sp_is_kind) : Has P w K mg base 2 "check_kind" ["kind"] sp_check_kind := by
  refine has_of D sc_check_kind (fun _ _ _ _ _ _ us hl => match us, hl with | [_], _ => rfl) (fun vs H Q E h => ?_) (fun f cdv A outer s H vs Q E hr h => ?_)
  · obtain ⟨v, rfl, _⟩ := h
    rfl
  · obtain ⟨k, rfl, ok, q⟩ := h
    refine ⟨_, (pss_one (ps_if (pt_not (pt_val (pe_callH G_is_kind (hr.mono (by omega)) (by rfl) (pa_cons (pv 0) pa_nil)))) (pss_one ps_never) pss_nil)), ?_⟩
    exact ⟨_, rfl, k, rfl, ok, fun H1 s1 => ⟨_, rfl, iteF (q _ s1)⟩⟩
/-! remaining_range: slots 0:counts 1:kind -/
abbrev s_remaining_range : Stmt := topS 37
theorem sc_remaining_range : FnScope ["counts", "kind"] ["counts", "kind"] (defScope s_remaining_range) := ⟨rfl, rfl, rfl, by decide +kernel, rfl, by decide +kernel, by decide +kernel⟩
def sp_remaining_range : Sp := fun vs H Q _ => ∃ (v : V) (cs : List Run) (k : Str), vs = [v, .str k] ∧ RunsG H v cs ∧ CtOk cs ∧ KindOk k ∧ (rgO cs k = none → ∀ H', Same H H' → Q .non H') ∧ (∀ x y, rgO cs k = some (x, y) → ∀ H' t, Same H H' → H' t = some (.tup [.int x, .int y]) → Q (.ref t) H')
theorem ok_remaining_range (D : Df K mg "remaining_range" s_remaining_range) (G_checked_counts : Has P w K mg base 5 "checked_counts" ["counts"] sp_checked_counts) (G_check_kind : Has P w K mg base 2 "check_kind" ["kind"] sp_check_kind) (G_range_in : Has P w K mg base 2 "range_in" ["counts", "kind"] sp_range_in) : Has P w K mg base 6 "remaining_range" ["counts", "kind"] sp_remaining_range := by
  refine has_of D sc_remaining_range (fun _ _ _ _ _ _ us hl => match us, hl with | [_, _], _ => rfl) (fun vs H Q E h => ?_) (fun f cdv A outer s H vs Q E hr h => ?_)
  · obtain ⟨_, _, _, rfl, _⟩ := h
    rfl
  · obtain ⟨v, cs, k, rfl, hR, ok, kk, qN, qS⟩ := h
    refine ⟨_, (pss_cons (ps_set (i := 0) sc_remaining_range.nd rfl (by first | exact Or.inl rfl | exact Or.inr rfl) (pe_callH G_checked_counts (hr.mono (by omega)) (by rfl) (pa_cons (pv 0) pa_nil)))
    (pss_cons (ps_expr (pe_callH G_check_kind (hr.mono (by omega)) (by rfl) (pa_cons (pv 1) pa_nil)))
    (pss_one (ps_ret (pe_callH G_range_in (hr.mono (by omega)) (by rfl) (pa_cons (pv 0) (pa_cons (pv 1) pa_nil))))))), ?_⟩
    refine ⟨_, rfl, v, cs, rfl, hR, ok, fun H1 p1 s1 n1 h1 => ?_⟩
    refine ⟨_, rfl, k, rfl, kk, fun H2 s2 => ?_⟩
    have sA := s1.trans s2
    exact ⟨_, rfl, _, rfl, p1, cs, k, rfl, h1.same s2, ok.1, (fun e H' s' => qN e _ (sA.trans s')), (fun x y e H' t s' ht => qS x y e _ t (sA.trans s') ht)⟩
end
end UP

set_option Elab.async false
set_option linter.all false
set_option maxRecDepth 100000
set_option maxHeartbeats 4000000
namespace UP
open PySem PySem.Spec PyProof.Rows L2
theorem len_bdS : ∀ (cs : List Run), (∀ r ∈ cs, r.2 ≤ 1000000000000000000000000000000) → lenR cs ≤ (cs.length : Int) * 1000000000000000000000000000000
  | [], _ => by
    rw [lenR_nil]
    decide
  | r :: t, h => by
    have h1 := h r (List.mem_cons_self ..)
    have h2 := len_bdS t fun x hx => h x (List.mem_cons_of_mem _ hx)
    rw [lenR_cons, List.length_cons]
    omega
theorem ct_len {cs : List Run} (ok : CtOk cs) : 0 ≤ lenR cs ∧ lenR cs ≤ 12000000000000000000000000000000 := by
  have h1 := lenR_nn fun r hr => (ok.2.1 r hr).2.1
  have h2 := len_bdS cs fun r hr => (ok.2.1 r hr).2.2
  have := ok.1
  omega
theorem eqv_nnS : PyData.eqv (.list []) (.list []) = true := by decide
theorem int_at2 {ms : List Int} {i : Nat} {x : V} (h : (ms.map V.int)[i]? = some x) : ∃ n, ms[i]? = some n ∧ x = .int n := by
  rw [List.getElem?_map] at h
  cases e : ms[i]? with
  | none =>
    rw [e] at h
    cases h
  | some n =>
    rw [e] at h
    exact ⟨n, rfl, (Option.some.inj h).symm⟩
section
variable {P : Program} {w : World} {K : PySem.W.Frag} {mg : Str → Option Value} {base : Heap}
end
end UP

set_option Elab.async false
set_option linter.all false
set_option maxRecDepth 100000
set_option maxHeartbeats 4000000
namespace UP
open PySem PySem.Spec PyProof.Rows L2
/-! ### one more item of two kinds -/
def Up1 (x y : Run) : Prop := x.1 = y.1 ∧ y.2 ≤ x.2 ∧ x.2 ≤ y.2 + 1
theorem cw_nn (cs : List Run) : cwR cs none = cs := by
  unfold cwR
  have : ∀ r ∈ cs, (r.1, if kdV none = .str r.1 then r.2 - numR none else r.2) = r := fun r hr => by
    rw [if_neg (show ¬ kdV none = .str r.1 from by intro z; cases z)]
  rw [List.map_congr_left this, List.map_id']
theorem can_nn {cs : List Run} : CanR cs none ↔ lenR cs % 2 = 0 ∧ ∀ r ∈ cs, 2 * r.2 ≤ lenR cs := by
  unfold CanR
  rw [cw_nn]
  exact ⟨fun h => h.2.2, fun h => ⟨fun r e => (by cases e), fun r _ e => (by cases e), h⟩⟩
theorem paired_back {α β : Type} {F : α → β → Prop} : ∀ {xs : List α} {ys : List β}, Paired F xs ys → ∀ x ∈ xs, ∃ y ∈ ys, F x y
  | _, _, .cons h t, x, hx => by
    rcases List.mem_cons.mp hx with e | hx
    · rw [e]
      exact ⟨_, List.mem_cons_self .., h⟩
    · obtain ⟨y, hy, f⟩ := paired_back t x hx
      exact ⟨y, List.mem_cons_of_mem _ hy, f⟩
theorem paired_fwd {α β : Type} {F : α → β → Prop} : ∀ {xs : List α} {ys : List β}, Paired F xs ys → ∀ y ∈ ys, ∃ x ∈ xs, F x y
  | _, _, .cons h t, x, hx => by
    rcases List.mem_cons.mp hx with e | hx
    · rw [e]
      exact ⟨_, List.mem_cons_self .., h⟩
    · obtain ⟨y, hy, f⟩ := paired_fwd t x hx
      exact ⟨y, List.mem_cons_of_mem _ hy, f⟩
theorem same_kind {cs : List Run} (h : Asc cs) {x y : Run} (hx : x ∈ cs) (hy : y ∈ cs) (e : x.1 = y.1) : x = y := by
  obtain ⟨i, hi, ei⟩ := List.mem_iff_getElem.mp hx
  obtain ⟨j, hj, ej⟩ := List.mem_iff_getElem.mp hy
  by_cases c : i = j
  · subst c
    rw [← ei, ← ej]
  · exact absurd e (asc_ne h c (by rw [List.getElem?_eq_getElem hi, ei]) (by rw [List.getElem?_eq_getElem hj, ej]))
theorem can_more {cs ms : List Run} {st : Option Run} (ac : Asc cs) (am : Asc ms) (up : Paired Up1 ms cs) (le : lenR ms = lenR cs + 2) (pn : PosO st) (h : CanR cs st) : CanR ms st := by
  cases st with
  | none =>
    rw [can_nn] at h ⊢
    refine ⟨by omega, fun r hr => ?_⟩
    obtain ⟨y, hy, u⟩ := paired_back up r hr
    have := h.2 y hy
    have := u.2.2
    omega
  | some s =>
    obtain ⟨k, n⟩ := s
    have n1 : 1 ≤ n := pn _ rfl
    obtain ⟨rc, hrc, ek⟩ := List.mem_map.mp (h.1 _ rfl)
    have ek : rc.1 = k := ek
    obtain ⟨pre, post, sp⟩ := split_of ac hrc
    rw [ek] at sp
    obtain ⟨rm, hrm, um⟩ := paired_fwd up rc hrc
    obtain ⟨pre2, post2, sp2⟩ := split_of am hrm
    rw [um.1, ek] at sp2
    have h2 := (sp.can n1).mp h
    refine (sp2.can n1).mpr ⟨by have := um.2; omega, by omega, by have := um.2; omega, fun r hr rk => ?_⟩
    obtain ⟨y, hy, u⟩ := paired_back up r hr
    have := h2.2.2.2 y hy (fun z => rk (u.1.trans z))
    have := u.2.2
    omega
theorem up_refl : ∀ (cs : List Run), Paired Up1 cs cs
  | [] => .nil
  | r :: t => .cons ⟨rfl, Int.le_refl _, by omega⟩ (up_refl t)
theorem asc_up {cs ms : List Run} (h : ms.map (·.1) = cs.map (·.1)) (a : Asc cs) : Asc ms := by
  intro i x y hx hy
  have g : ∀ (j : Nat) (z : Run), ms[j]? = some z → ∃ w, cs[j]? = some w ∧ w.1 = z.1 := by
    intro j z hz
    have := congrArg (fun l : List Str => l[j]?) h
    simp only [List.getElem?_map, hz] at this
    cases e : cs[j]? with
    | none => rw [e] at this; cases this
    | some w =>
      rw [e] at this
      exact ⟨w, rfl, (Option.some.inj this).symm⟩
  obtain ⟨x', h1, e1⟩ := g i x hx
  obtain ⟨y', h2, e2⟩ := g (i + 1) y hy
  rw [← e1, ← e2]
  exact a i x' y' h1 h2
/-- the list with one more item in one place -/
def bmp (cs : List Run) (i : Nat) : List Run := match cs[i]? with
  | none => cs
  | some r => cs.set i (r.1, r.2 + 1)
theorem bmp_cons0 (r : Run) (t : List Run) : bmp (r :: t) 0 = (r.1, r.2 + 1) :: t := rfl
theorem bmp_cons (r : Run) (t : List Run) (i : Nat) : bmp (r :: t) (i + 1) = r :: bmp t i := by
  unfold bmp
  rw [List.getElem?_cons_succ]
  cases t[i]? with
  | none => rfl
  | some x => rfl
theorem bmp_len : ∀ (cs : List Run) (i : Nat), i < cs.length → lenR (bmp cs i) = lenR cs + 1
  | [], i, h => absurd h (Nat.not_lt_zero _)
  | r :: t, 0, _ => by
    rw [bmp_cons0, lenR_cons, lenR_cons]
    show r.2 + 1 + lenR t = _
    omega
  | r :: t, i + 1, h => by
    rw [bmp_cons, lenR_cons, lenR_cons, bmp_len t i (Nat.lt_of_succ_lt_succ h)]
    omega
theorem bmp_size : ∀ (cs : List Run) (i : Nat), (bmp cs i).length = cs.length := by
  intro cs i
  unfold bmp
  split
  · rfl
  · rw [List.length_set]
theorem bmp_kinds : ∀ (cs : List Run) (i : Nat), (bmp cs i).map (·.1) = cs.map (·.1)
  | [], i => rfl
  | r :: t, 0 => rfl
  | r :: t, i + 1 => by
    rw [bmp_cons, List.map_cons, List.map_cons, bmp_kinds t i]
theorem bmp_two : ∀ (cs : List Run) (i : Nat), Paired Up1 (bmp (bmp cs i) (i + 1)) cs
  | [], i => .nil
  | r :: t, 0 => by
    rw [bmp_cons0, bmp_cons]
    refine .cons ⟨rfl, by show r.2 ≤ r.2 + 1; omega, Int.le_refl _⟩ ?_
    cases t with
    | nil => exact .nil
    | cons s u =>
      rw [bmp_cons0]
      exact .cons ⟨rfl, by show s.2 ≤ s.2 + 1; omega, Int.le_refl _⟩ (up_refl u)
  | r :: t, i + 1 => by
    rw [bmp_cons, bmp_cons]
    exact .cons ⟨rfl, Int.le_refl _, by omega⟩ (bmp_two t i)
theorem rg_maj {cs : List Run} {r : Run} (ok : CtOk cs) (hr : r ∈ cs) (h : lenR cs < 2 * r.2) : rgO cs r.1 = some (2 * r.2 - lenR cs, moR cs r.1) := by
  obtain ⟨pre, post, sp⟩ := split_of ok.2.2 hr
  have pos : ∀ r ∈ cs, 1 ≤ r.2 := fun r hr => (ok.2.1 r hr).2.1
  have ow := sp.own
  have ht := sp.tot
  have hpre : 0 ≤ lenR pre := lenR_nn fun x hx => pos x (by rw [sp.eq]; exact List.mem_append.mpr (.inl hx))
  have hpost : 0 ≤ lenR post := lenR_nn fun x hx => pos x (by rw [sp.eq]; exact List.mem_append.mpr (.inr (List.mem_cons_of_mem _ hx)))
  have lg : lgR cs r.1 ≤ lenR pre + lenR post := by
    rcases lg_mem cs r.1 with e | ⟨x, hx, xk, e⟩
    · omega
    · rw [← e]
      rw [sp.eq] at hx
      have le_mem : ∀ (l : List Run), (∀ y ∈ l, 1 ≤ y.2) → ∀ y ∈ l, y.2 ≤ lenR l := by
        intro l
        induction l with
        | nil => intro _ y hy; cases hy
        | cons u v ih =>
          intro k y hy
          have h1 := k u (List.mem_cons_self ..)
          have h2 := lenR_nn fun w hw => k w (List.mem_cons_of_mem _ hw)
          rw [lenR_cons]
          rcases List.mem_cons.mp hy with e | e
          · rw [e]
            omega
          · have := ih (fun w hw => k w (List.mem_cons_of_mem _ hw)) y e
            omega
      rcases List.mem_append.mp hx with z | z
      · have := le_mem pre (fun y hy => pos y (by rw [sp.eq]; exact List.mem_append.mpr (.inl hy))) x z
        omega
      · rcases List.mem_cons.mp z with z | z
        · rw [z] at xk
          exact absurd rfl xk
        · have := le_mem post (fun y hy => pos y (by rw [sp.eq]; exact List.mem_append.mpr (.inr (List.mem_cons_of_mem _ hy)))) x z
          omega
  have e1 : leR cs r.1 = 2 * r.2 - lenR cs := by
    unfold leR
    rw [ow]
    split <;> omega
  unfold rgO
  rw [if_pos, e1]
  rw [e1]
  unfold moR
  rw [ow]
  split <;> omega
theorem rg_other {cs : List Run} {k : Str} (ok : CtOk cs) (h : ∀ r ∈ cs, r.1 ≠ k) : rgO cs k = none := by
  have ow : ownR cs k = 0 := by
    unfold ownR
    rw [own_none h, lenR_nil]
  have h1 := (lenR_nn fun r hr => (ok.2.1 r hr).2.1 : 0 ≤ lenR cs)
  unfold rgO
  rw [if_neg]
  have l0 := le_pos (cs := cs) (k := k)
  have : moR cs k ≤ 0 := by
    unfold moR
    rw [ow]
    split <;> omega
  omega
theorem flat_ints (l : List Int) : (l.map V.int).all flatV = true := by
  rw [List.all_eq_true]
  intro x hx
  obtain ⟨k, _, rfl⟩ := List.mem_map.mp hx
  rfl
theorem no_none (l : List Int) : inV .non (l.map V.int) = false := by
  unfold inV
  rw [List.any_eq_false]
  intro x hx h
  obtain ⟨k, _, rfl⟩ := List.mem_map.mp hx
  cases h
end UP

set_option Elab.async false
set_option linter.all false
set_option maxRecDepth 100000
set_option maxHeartbeats 4000000
namespace UP
open PySem PySem.Spec PyProof.Rows L2
/-! ### the state after any sequence can remain -/
def ofK (st : Option Run) (k : Str) : Int := if kdV st = .str k then numR st else 0
theorem ofK_none (k : Str) : ofK none k = 0 := by
  unfold ofK
  split <;> rfl
theorem ofK_pos {r : Run} {k : Str} (h : r.1 = k) : ofK (some r) k = r.2 := if_pos (by rw [← h]; rfl)
theorem ofK_neg {r : Run} {k : Str} (h : r.1 ≠ k) : ofK (some r) k = 0 := if_neg fun z => h (V.str.inj z)
theorem cnt_pos (n : Nat) {k x : Str} (h : k = x) : (List.replicate n k).count x = n := by
  rw [h]
  exact List.count_replicate_self
theorem cnt_neg (n : Nat) {k x : Str} (h : k ≠ x) : (List.replicate n k).count x = 0 := by
  refine List.count_eq_zero_of_not_mem fun z => ?_
  exact h (List.eq_of_mem_replicate z).symm
structure InvS (its : List Str) (st : Option Run) : Prop where
  par : ((its.length : Int) - numR st) % 2 = 0
  pos : PosO st
  own : ∀ k, ofK st k ≤ ((its.count k : Nat) : Int)
  half : ∀ k, 2 * (((its.count k : Nat) : Int) - ofK st k) ≤ (its.length : Int) - numR st
theorem InvS.nil : InvS [] none := ⟨rfl, (fun r h => by cases h), (fun k => by rw [ofK_none]; exact Int.le_refl _), (fun k => by rw [ofK_none]; exact Int.le_refl _)⟩
theorem InvS.step {its : List Str} {st : Option Run} (h : InvS its st) (k : Str) (c : Int) (c1 : 1 ≤ c) : InvS (its ++ List.replicate c.toNat k) (stepR st k c) := by
  obtain ⟨par, pos, own, half⟩ := h
  have len : ((its ++ List.replicate c.toNat k).length : Int) = its.length + c := by
    rw [List.length_append, List.length_replicate]
    omega
  have cp : ∀ x, k = x → (((its ++ List.replicate c.toNat k).count x : Nat) : Int) = its.count x + c := fun x e => by
    rw [List.count_append, cnt_pos _ e]
    omega
  have cn : ∀ x, k ≠ x → (((its ++ List.replicate c.toNat k).count x : Nat) : Int) = its.count x := fun x e => by
    rw [List.count_append, cnt_neg _ e]
    omega
  have pos' : PosO (stepR st k c) := stepR_pos pos c1
  cases st with
  | none =>
    have par : ((its.length : Int) - 0) % 2 = 0 := par
    have es : stepR none k c = some (k, c) := rfl
    rw [es] at pos' ⊢
    refine ⟨?_, pos', fun x => ?_, fun x => ?_⟩
    · rw [len]
      show ((its.length : Int) + c - c) % 2 = 0
      omega
    · have o := own x
      rw [ofK_none] at o
      by_cases e : k = x
      · rw [ofK_pos (r := (k, c)) e, cp x e]
        show c ≤ _
        omega
      · rw [ofK_neg (r := (k, c)) e, cn x e]
        omega
    · have o := half x
      rw [ofK_none] at o
      have o : 2 * (((its.count x : Nat) : Int) - 0) ≤ (its.length : Int) - 0 := o
      rw [len]
      show _ ≤ (its.length : Int) + c - c
      by_cases e : k = x
      · rw [ofK_pos (r := (k, c)) e, cp x e]
        show 2 * (_ + c - c) ≤ _
        omega
      · rw [ofK_neg (r := (k, c)) e, cn x e]
        omega
  | some r =>
    have r1 := pos r rfl
    have par : ((its.length : Int) - r.2) % 2 = 0 := par
    have half : ∀ x, 2 * (((its.count x : Nat) : Int) - ofK (some r) x) ≤ (its.length : Int) - r.2 := half
    by_cases e : r.1 = k
    · rw [step_same e] at pos' ⊢
      refine ⟨?_, pos', fun x => ?_, fun x => ?_⟩
      · rw [len]
        show ((its.length : Int) + c - (r.2 + c)) % 2 = 0
        omega
      · have o := own x
        by_cases ex : k = x
        · rw [ofK_pos (e.trans ex)] at o
          rw [ofK_pos (r := (k, r.2 + c)) ex, cp x ex]
          show r.2 + c ≤ _
          omega
        · rw [ofK_neg (r := (k, r.2 + c)) ex, cn x ex]
          omega
      · have o := half x
        rw [len]
        show _ ≤ (its.length : Int) + c - (r.2 + c)
        by_cases ex : k = x
        · rw [ofK_pos (e.trans ex)] at o
          rw [ofK_pos (r := (k, r.2 + c)) ex, cp x ex]
          show 2 * (_ + c - (r.2 + c)) ≤ _
          omega
        · rw [ofK_neg (fun z => ex (e.symm.trans z))] at o
          rw [ofK_neg (r := (k, r.2 + c)) ex, cn x ex]
          omega
    · rw [step_other e] at pos' ⊢
      by_cases h1 : 0 < r.2 - c
      · rw [if_pos h1] at pos' ⊢
        refine ⟨?_, pos', fun x => ?_, fun x => ?_⟩
        · rw [len]
          show ((its.length : Int) + c - (r.2 - c)) % 2 = 0
          omega
        · have o := own x
          by_cases ex : r.1 = x
          · rw [ofK_pos ex] at o
            rw [ofK_pos (r := (r.1, r.2 - c)) ex, cn x (fun z => e (ex.trans z.symm))]
            show r.2 - c ≤ _
            omega
          · rw [ofK_neg (r := (r.1, r.2 - c)) ex]
            omega
        · have o := half x
          rw [len]
          show _ ≤ (its.length : Int) + c - (r.2 - c)
          by_cases ex : r.1 = x
          · rw [ofK_pos ex] at o
            rw [ofK_pos (r := (r.1, r.2 - c)) ex, cn x (fun z => e (ex.trans z.symm))]
            show 2 * (_ - (r.2 - c)) ≤ _
            omega
          · rw [ofK_neg ex] at o
            rw [ofK_neg (r := (r.1, r.2 - c)) ex]
            by_cases ek : k = x
            · rw [cp x ek]
              omega
            · rw [cn x ek]
              omega
      · rw [if_neg h1] at pos' ⊢
        by_cases h2 : r.2 - c = 0
        · rw [if_pos h2] at pos' ⊢
          refine ⟨?_, pos', fun x => ?_, fun x => ?_⟩
          · rw [len]
            show ((its.length : Int) + c - 0) % 2 = 0
            omega
          · rw [ofK_none]
            omega
          · have o := half x
            rw [len, ofK_none]
            show _ ≤ (its.length : Int) + c - 0
            by_cases ex : r.1 = x
            · rw [ofK_pos ex] at o
              rw [cn x (fun z => e (ex.trans z.symm))]
              omega
            · rw [ofK_neg ex] at o
              by_cases ek : k = x
              · rw [cp x ek]
                omega
              · rw [cn x ek]
                omega
        · rw [if_neg h2] at pos' ⊢
          refine ⟨?_, pos', fun x => ?_, fun x => ?_⟩
          · rw [len]
            show ((its.length : Int) + c - -(r.2 - c)) % 2 = 0
            omega
          · by_cases ek : k = x
            · rw [ofK_pos (r := (k, -(r.2 - c))) ek, cp x ek]
              show -(r.2 - c) ≤ _
              omega
            · rw [ofK_neg (r := (k, -(r.2 - c))) ek]
              omega
          · have o := half x
            rw [len]
            show _ ≤ (its.length : Int) + c - -(r.2 - c)
            by_cases ek : k = x
            · rw [ofK_neg (fun z => e (z.trans ek.symm))] at o
              rw [ofK_pos (r := (k, -(r.2 - c))) ek, cp x ek]
              show 2 * (_ + c - -(r.2 - c)) ≤ _
              omega
            · rw [ofK_neg (r := (k, -(r.2 - c))) ek, cn x ek]
              by_cases ex : r.1 = x
              · rw [ofK_pos ex] at o
                omega
              · rw [ofK_neg ex] at o
                omega
theorem InvS.runs : ∀ (rs : List Run) {its : List Str} {st : Option Run}, (∀ r ∈ rs, 1 ≤ r.2) → InvS its st → InvS (its ++ itR rs) (stR rs st)
  | [], its, st, _, h => by
    show InvS (its ++ []) st
    rw [List.append_nil]
    exact h
  | r :: t, its, st, k, h => by
    have := InvS.runs t (fun x hx => k x (List.mem_cons_of_mem _ hx)) (h.step r.1 r.2 (k r (List.mem_cons_self ..)))
    rw [List.append_assoc] at this
    exact this
theorem inv_all {rs : List Run} (k : ∀ r ∈ rs, 1 ≤ r.2) : InvS (itR rs) (stR rs none) := by
  have := InvS.runs rs k InvS.nil
  rw [List.nil_append] at this
  exact this
/-! ### counts and items -/
theorem CT.same {ks : List Run} {a b : List Str} (h : a.Perm b) (c : CT ks a) : CT ks b :=
  ⟨c.nd, fun e he => by rw [c.val e he, h.count_eq], fun k => h.symm.mem_iff.trans (c.cov k), c.sum.trans (by rw [h.length_eq])⟩
theorem InvS.same {a b : List Str} {st : Option Run} (h : a.Perm b) (c : InvS a st) : InvS b st := by
  obtain ⟨h1, h2, h3, h4⟩ := c
  refine ⟨?_, h2, fun k => ?_, fun k => ?_⟩
  · rw [← h.length_eq]
    exact h1
  · rw [← h.count_eq]
    exact h3 k
  · rw [← h.count_eq, ← h.length_eq]
    exact h4 k
theorem CT.len {ks : List Run} {its : List Str} (c : CT ks its) : lenR ks = (its.length : Int) := c.sum
theorem can_after {cs : List Run} {its : List Str} {st : Option Run} (c : CT cs its) (a : Asc cs) (h : InvS its st) : CanR cs st := by
  cases st with
  | none =>
    rw [can_nn, c.len]
    refine ⟨?_, fun r hr => ?_⟩
    · have := h.par
      have : ((its.length : Int) - 0) % 2 = 0 := this
      omega
    · have o := h.half r.1
      rw [ofK_none, ← c.val r hr] at o
      have o : 2 * (r.2 - 0) ≤ (its.length : Int) - 0 := o
      omega
  | some r =>
    have r1 := h.pos r rfl
    have ow := h.own r.1
    rw [ofK_pos rfl] at ow
    have mem : r.1 ∈ its := List.count_pos_iff.mp (by omega)
    obtain ⟨e, he, ee⟩ := List.mem_map.mp ((c.cov r.1).mp mem)
    obtain ⟨pre, post, sp⟩ := split_of a he
    rw [ee] at sp
    have := (sp.can (n := r.2) r1).mpr ?_
    · exact this
    · have v := c.val e he
      rw [ee] at v
      have par : ((its.length : Int) - r.2) % 2 = 0 := h.par
      have hf := h.half r.1
      rw [ofK_pos rfl] at hf
      have hf : 2 * (((its.count r.1 : Nat) : Int) - r.2) ≤ (its.length : Int) - r.2 := hf
      rw [c.len]
      refine ⟨by omega, par, by omega, fun x hx xk => ?_⟩
      have o := h.half x.1
      rw [ofK_neg (fun z => xk z.symm), ← c.val x hx] at o
      have o : 2 * (x.2 - 0) ≤ (its.length : Int) - r.2 := o
      omega
theorem nodup_len : ∀ {l m : List Str}, l.Nodup → (∀ x ∈ l, x ∈ m) → l.length ≤ m.length
  | [], m, _, _ => Nat.zero_le _
  | a :: t, m, nd, h => by
    have nd := List.nodup_cons.mp nd
    have am := h a (List.mem_cons_self ..)
    have := nodup_len (l := t) (m := m.erase a) nd.2 fun x hx => (List.mem_erase_of_ne (fun z => nd.1 (by rw [← z]; exact hx))).mpr (h x (List.mem_cons_of_mem _ hx))
    rw [List.length_erase_of_mem am] at this
    have : 0 < m.length := List.length_pos_of_mem am
    rw [List.length_cons]
    omega
theorem ct_ok {cs : List Run} {its ks : List Str} (c : CT cs its) (s : cs.Pairwise fun x y => UPS.lexS y x = false) (ok : ∀ k ∈ its, KindOk k) (len : (its.length : Int) ≤ 1000000000000000000000000000000) (sub : ∀ k ∈ its, k ∈ ks) (l : ks.length ≤ 12) : CtOk cs := by
  refine ⟨?_, fun r hr => ?_, fun i x y hx hy => ?_⟩
  · have := nodup_len c.nd fun x hx => sub x ((c.cov x).mpr hx)
    rw [List.length_map] at this
    omega
  · have mem : r.1 ∈ its := (c.cov r.1).mpr (List.mem_map.mpr ⟨r, hr, rfl⟩)
    have v := c.val r hr
    have p := List.count_pos_iff.mpr mem
    have q := List.count_le_length (a := r.1) (l := its)
    exact ⟨ok _ mem, by omega, by omega⟩
  · have p := c.strict s
    obtain ⟨hi, ei⟩ := List.getElem?_eq_some_iff.mp hx
    obtain ⟨hj, ej⟩ := List.getElem?_eq_some_iff.mp hy
    have := List.pairwise_iff_getElem.mp p i (i + 1) hi hj (by omega)
    rw [ei, ej] at this
    exact this
theorem it_perm {l m : List Run} (h : l.Perm m) : (itR l).Perm (itR m) := by
  induction h with
  | nil => exact List.Perm.refl _
  | cons x _ ih => exact ih.append_left _
  | swap x y l =>
    show (List.replicate y.2.toNat y.1 ++ (List.replicate x.2.toNat x.1 ++ itR l)).Perm (List.replicate x.2.toNat x.1 ++ (List.replicate y.2.toNat y.1 ++ itR l))
    rw [← List.append_assoc, ← List.append_assoc]
    exact List.perm_append_comm.append_right _
  | trans _ _ h1 h2 => exact h1.trans h2
theorem mem_it {rs : List Run} {k : Str} (h : k ∈ itR rs) : ∃ r ∈ rs, r.1 = k ∧ 1 ≤ r.2 := by
  obtain ⟨r, hr, hk⟩ := List.mem_flatMap.mp h
  have e := List.eq_of_mem_replicate hk
  have : r.2.toNat ≠ 0 := fun z => by rw [z] at hk; cases hk
  exact ⟨r, hr, e.symm, by omega⟩
theorem run_cnt : ∀ {rs : List Run} {r : Run}, r ∈ rs → r.2 ≤ (((itR rs).count r.1 : Nat) : Int)
  | x :: t, r, h => by
    have e : (itR (x :: t)).count r.1 = (List.replicate x.2.toNat x.1).count r.1 + (itR t).count r.1 := List.count_append ..
    rw [e]
    rcases List.mem_cons.mp h with z | z
    · rw [← z, cnt_pos _ rfl]
      omega
    · have := run_cnt z
      omega
theorem len_it0 : ∀ (rs : List Run), (∀ r ∈ rs, 0 ≤ r.2) → ((itR rs).length : Int) = lenR rs
  | [], _ => rfl
  | r :: t, k => by
    have c1 := k r (List.mem_cons_self ..)
    have ih := len_it0 t fun x hx => k x (List.mem_cons_of_mem _ hx)
    have e : itR (r :: t) = List.replicate r.2.toNat r.1 ++ itR t := rfl
    rw [e, List.length_append, List.length_replicate, lenR_cons]
    omega
theorem cut_its0 {s e : Int} : ∀ (rs : List Run) (b : Int), (∀ r ∈ rs, 0 ≤ r.2) → itR (cutR s e b rs) = ((itR rs).take (e - b).toNat).drop (s - b).toNat
  | [], b, _ => by
    show ([] : List Str) = (([] : List Str).take _).drop _
    rw [List.take_nil, List.drop_nil]
  | r :: t, b, k => by
    have c1 := k r (List.mem_cons_self ..)
    have ih := cut_its0 (s := s) (e := e) t (b + r.2) fun x hx => k x (List.mem_cons_of_mem _ hx)
    have e1 : cutR s e b (r :: t) = pieceR b s e r ++ cutR s e (b + r.2) t := rfl
    have e2 : itR (r :: t) = List.replicate r.2.toNat r.1 ++ itR t := rfl
    have ep : itR (pieceR b s e r) = List.replicate (min (e - b).toNat r.2.toNat - (s - b).toNat) r.1 := by
      by_cases hs : 0 < sizeR b s e r.2
      · rw [show pieceR b s e r = [(r.1, sizeR b s e r.2)] from if_pos hs]
        show List.replicate (sizeR b s e r.2).toNat r.1 ++ [] = _
        rw [List.append_nil]
        congr 1
        unfold sizeR at hs ⊢
        split at hs <;> split at hs <;> (first | rw [if_pos (by omega)] | rw [if_neg (by omega)]) <;> (first | rw [if_pos (by omega)] | rw [if_neg (by omega)]) <;> omega
      · rw [show pieceR b s e r = [] from if_neg hs]
        have : min (e - b).toNat r.2.toNat - (s - b).toNat = 0 := by
          unfold sizeR at hs
          split at hs <;> split at hs <;> omega
        rw [this]
        rfl
    rw [e1, it_app, ih, e2, take_app, List.length_replicate, List.take_replicate, List.drop_append, List.length_replicate, List.drop_replicate, ep, show (e - (b + r.2)).toNat = (e - b).toNat - r.2.toNat by omega]
    congr 1
    by_cases h : (e - b).toNat ≤ r.2.toNat
    · rw [show (e - b).toNat - r.2.toNat = 0 by omega, List.take_zero, List.drop_nil, List.drop_nil]
    · rw [show (s - (b + r.2)).toNat = (s - b).toNat - min (e - b).toNat r.2.toNat by omega]
/-! ### pairs of the two halves -/
def DiffI (A B : List Str) : Prop := ∀ (i : Nat) (x y : Str), A[i]? = some x → B[i]? = some y → x ≠ y
theorem DiffI.drop {A B : List Str} (n : Nat) (h : DiffI A B) : DiffI (A.drop n) (B.drop n) := fun i x y hx hy => by
  rw [List.getElem?_drop] at hx hy
  exact h _ x y hx hy
theorem block_at {A B : List Str} {k : Str} {c i : Nat} (ha : k ∉ A) (hb : k ∉ B) (h : (A ++ (List.replicate c k ++ B))[i]? = some k) : A.length ≤ i ∧ i < A.length + c := by
  by_cases h1 : i < A.length
  · rw [List.getElem?_append_left h1] at h
    exact absurd (List.mem_of_getElem? h) ha
  · rw [List.getElem?_append_right (by omega)] at h
    by_cases h2 : i - A.length < c
    · omega
    · rw [List.getElem?_append_right (by rw [List.length_replicate]; omega)] at h
      exact absurd (List.mem_of_getElem? h) hb
theorem halves {cs : List Run} {hf : Nat} (nn : ∀ r ∈ cs, 0 ≤ r.2) (asc : Asc cs) (maj : ∀ r ∈ cs, r.2 ≤ (hf : Int)) : DiffI ((itR cs).take hf) ((itR cs).drop hf) := by
  intro i x y hx hy e
  subst e
  rw [List.getElem?_take] at hx
  rw [List.getElem?_drop] at hy
  split at hx
  · obtain ⟨r, hr, rk, _⟩ := mem_it (List.mem_of_getElem? hx)
    obtain ⟨pre, post, sp⟩ := split_of asc hr
    rw [rk] at sp
    have e : itR cs = itR pre ++ (List.replicate r.2.toNat x ++ itR post) := by
      rw [sp.eq, it_app]
      rfl
    have na : ∀ {l : List Run}, (∀ r ∈ l, r.1 ≠ x) → x ∉ itR l := fun h z => by
      obtain ⟨r', h1, h2, _⟩ := mem_it z
      exact h r' h1 h2
    rw [e] at hx hy
    have b1 := block_at (na sp.pre) (na sp.post) hx
    have b2 := block_at (na sp.pre) (na sp.post) hy
    have := maj r hr
    have := nn r hr
    omega
  · cases hx
structure PrI (its : List Str) (Rl F S : List Run) : Prop where
  perm : (itR Rl ++ (itR F ++ itR S)).Perm its
  pos : ∀ r ∈ Rl, 1 ≤ r.2
  alt : Alt Rl
  st : stR Rl none = none
  diff : DiffI (itR F) (itR S)
theorem st_add {rs : List Run} {r : Run} (p : ∀ r ∈ rs, 1 ≤ r.2) (c : 1 ≤ r.2) (a : Alt rs) : stR (addR rs r) none = stepR (stR rs none) r.1 r.2 := by
  obtain ⟨h1, h2, h3⟩ := it_addc rs r p c a
  have pn : PosO none := fun r h => by cases h
  obtain ⟨n, hn⟩ : ∃ n : Nat, r.2.toNat = n + 1 := ⟨r.2.toNat - 1, by omega⟩
  have pi : PosO (stI (itR rs) none) := by
    rw [← st_items _ _ pn p]
    exact (inv_all p).pos
  rw [st_items _ _ pn h2, h1, stI_app, hn, it_step n _ _ pi, st_items _ _ pn p, show ((n : Int) + 1) = r.2 by omega]
theorem head_rep {r : Run} {t : List Run} {z : Nat} (h : (z : Int) ≤ r.2) : itR (r :: t) = List.replicate z r.1 ++ (itR (r :: t)).drop z := by
  have e : itR (r :: t) = List.replicate r.2.toNat r.1 ++ itR t := rfl
  have tk : (itR (r :: t)).take z = List.replicate z r.1 := by
    rw [e, List.take_append_of_le_length (by rw [List.length_replicate]; omega), List.take_replicate, show min z r.2.toNat = z by omega]
  rw [← tk, List.take_append_drop]
theorem cut_rest {F : List Run} {z hf : Int} (p : ∀ r ∈ F, 1 ≤ r.2) (z0 : 0 ≤ z) (l : lenR F ≤ hf) : itR (cutR z (z + hf) 0 F) = (itR F).drop z.toNat := by
  have ll := len_it F p
  rw [cut_its F 0 p, List.take_of_length_le (by omega), Int.sub_zero]
theorem PrI.step {its : List Str} {Rl Ft St : List Run} {f s : Run} {z hf : Int} (h : PrI its Rl (f :: Ft) (s :: St)) (pF : ∀ r ∈ f :: Ft, 1 ≤ r.2) (pS : ∀ r ∈ s :: St, 1 ≤ r.2) (z1 : 1 ≤ z) (zf : z ≤ f.2) (zs : z ≤ s.2) (lF : lenR (f :: Ft) ≤ hf) (lS : lenR (s :: St) ≤ hf) :
    PrI its (addR (addR Rl (f.1, z)) (s.1, z)) (cutR z (z + hf) 0 (f :: Ft)) (cutR z (z + hf) 0 (s :: St)) := by
  obtain ⟨perm, pos, alt, st, diff⟩ := h
  obtain ⟨a1, a2, a3⟩ := it_addc Rl (f.1, z) pos z1 alt
  obtain ⟨b1, b2, b3⟩ := it_addc (addR Rl (f.1, z)) (s.1, z) a2 z1 a3
  have ef := head_rep (r := f) (t := Ft) (z := z.toNat) (by omega)
  have es := head_rep (r := s) (t := St) (z := z.toNat) (by omega)
  have ne : f.1 ≠ s.1 := by
    refine diff 0 _ _ ?_ ?_
    · rw [ef, List.getElem?_append_left (by rw [List.length_replicate]; omega), List.getElem?_replicate, if_pos (by omega)]
    · rw [es, List.getElem?_append_left (by rw [List.length_replicate]; omega), List.getElem?_replicate, if_pos (by omega)]
  refine ⟨?_, b2, b3, ?_, ?_⟩
  · refine List.Perm.trans ?_ perm
    rw [cut_rest pF (by omega) lF, cut_rest pS (by omega) lS, b1, a1]
    refine List.perm_iff_count.mpr fun x => ?_
    have c1 := congrArg (List.count x) ef
    have c2 := congrArg (List.count x) es
    rw [List.count_append] at c1 c2
    simp only [List.count_append]
    rw [c1, c2]
    show _ + List.count x (List.replicate z.toNat f.1) + List.count x (List.replicate z.toNat s.1) + _ = _
    omega
  · rw [st_add a2 z1 a3, st_add pos z1 alt, st]
    show stepR (some (f.1, z)) s.1 z = none
    rw [step_other (r := (f.1, z)) ne, if_neg (by show ¬ 0 < z - z; omega), if_pos (by show z - z = 0; omega)]
  · rw [cut_rest pF (by omega) lF, cut_rest pS (by omega) lS]
    exact diff.drop _
theorem PrI.start {cs : List Run} {hf : Int} (nn : ∀ r ∈ cs, 0 ≤ r.2) (asc : Asc cs) (h0 : 0 ≤ hf) (len : lenR cs = 2 * hf) (maj : ∀ r ∈ cs, 2 * r.2 ≤ lenR cs) : PrI (itR cs) [] (cutR 0 (0 + hf) 0 cs) (cutR hf (hf + hf) 0 cs) := by
  have ll := len_it0 cs nn
  have e1 : itR (cutR 0 (0 + hf) 0 cs) = (itR cs).take hf.toNat := by
    rw [cut_its0 cs 0 nn, show (0 + hf - 0).toNat = hf.toNat by omega, show ((0 : Int) - 0).toNat = 0 from rfl, List.drop_zero]
  have e2 : itR (cutR hf (hf + hf) 0 cs) = (itR cs).drop hf.toNat := by
    rw [cut_its0 cs 0 nn, List.take_of_length_le (by omega), Int.sub_zero]
  refine ⟨?_, (fun r h => by cases h), (fun i x y h => by simp at h), rfl, ?_⟩
  · rw [e1, e2, List.take_append_drop]
    exact List.Perm.refl _
  · rw [e1, e2]
    exact halves nn asc fun r hr => by have := maj r hr; omega
end UP

set_option Elab.async false
set_option linter.all false
set_option maxRecDepth 100000
set_option maxHeartbeats 4000000
set_option pp.maxSteps 600
namespace UP
open PySem PySem.Spec PyProof.Rows L2
theorem stI_snocP (l : List Str) (x : Str) (s : Option Run) : stI (l ++ [x]) s = stepR (stI l s) x 1 := stI_app l [x] s
/-! ### which states orders of the counts lead to -/
theorem weave : ∀ (A B : List Str), A.length = B.length → DiffI A B → ∃ l : List Str, l.Perm (A ++ B) ∧ stI l none = none
  | [], [], _, _ => ⟨[], .refl _, rfl⟩
  | [], y :: B, h, _ => by cases h
  | x :: A, [], h, _ => by cases h
  | x :: A, y :: B, h, d => by
    obtain ⟨l, pl, sl⟩ := weave A B (Nat.succ.inj h) (d.drop 1)
    have xy : x ≠ y := d 0 x y rfl rfl
    refine ⟨x :: y :: l, ?_, ?_⟩
    · show (x :: y :: l).Perm (x :: (A ++ y :: B))
      exact .cons x ((List.Perm.cons y pl).trans List.perm_middle.symm)
    · show stI l (stepR (stepR none x 1) y 1) = none
      have e : stepR (stepR none x 1) y 1 = none := by
        show stepR (some (x, 1)) y 1 = none
        rw [step_other (r := (x, 1)) xy]
        rfl
      rw [e]
      exact sl
theorem it_cwX : ∀ {cs : List Run} {k : Str} {n : Int} {pre post : List Run} {c : Int}, Split cs k pre c post → 1 ≤ n → n ≤ c → (itR (cwR cs (some (k, n))) ++ List.replicate n.toNat k).Perm (itR cs) := by
  intro cs k n pre post c sp n1 nc
  rw [sp.cw, sp.eq, it_app, it_app]
  have e1 : itR ((k, c - n) :: post) = List.replicate (c - n).toNat k ++ itR post := rfl
  have e2 : itR ((k, c) :: post) = List.replicate c.toNat k ++ itR post := rfl
  rw [e1, e2]
  refine List.perm_iff_count.mpr fun x => ?_
  simp only [List.count_append]
  by_cases e : k = x
  · rw [cnt_pos _ e, cnt_pos _ e, cnt_pos _ e]
    omega
  · rw [cnt_neg _ e, cnt_neg _ e, cnt_neg _ e]
    omega
theorem even_order {cs : List Run} (nn : ∀ r ∈ cs, 0 ≤ r.2) (asc : Asc cs) (ev : lenR cs % 2 = 0) (maj : ∀ r ∈ cs, 2 * r.2 ≤ lenR cs) : ∃ l : List Str, l.Perm (itR cs) ∧ stI l none = none := by
  have ll := len_it0 cs nn
  obtain ⟨hf, ehf⟩ : ∃ hf : Nat, (itR cs).length = hf + hf := ⟨(itR cs).length / 2, by omega⟩
  obtain ⟨l, pl, sl⟩ := weave ((itR cs).take hf) ((itR cs).drop hf) (by rw [List.length_take, List.length_drop]; omega) (halves nn asc fun r hr => by have := maj r hr; omega)
  rw [List.take_append_drop] at pl
  exact ⟨l, pl, sl⟩
theorem can_order {cs : List Run} {st : Option Run} (pos : ∀ r ∈ cs, 1 ≤ r.2) (asc : Asc cs) (ps : PosO st) (c : CanR cs st) : ∃ l : List Str, l.Perm (itR cs) ∧ stI l none = st := by
  cases st with
  | none =>
    obtain ⟨_, _, h3, h4⟩ := c
    rw [cw_nn] at h3 h4
    exact even_order (fun r hr => by have := pos r hr; omega) asc h3 h4
  | some r =>
    obtain ⟨k, n⟩ := r
    have n1 : 1 ≤ n := ps _ rfl
    obtain ⟨h1, h2, h3, h4⟩ := c
    obtain ⟨e, he, ek⟩ := List.mem_map.mp (h1 _ rfl)
    have ek : e.1 = k := ek
    obtain ⟨pre, post, sp⟩ := split_of asc he
    rw [ek] at sp
    have nc : n ≤ e.2 := h2 e he (by show V.str k = V.str e.1; rw [ek])
    have asc2 : Asc (cwR cs (some (k, n))) := by
      refine asc_up ?_ asc
      unfold cwR
      rw [List.map_map]
      rfl
    have nn2 : ∀ r ∈ cwR cs (some (k, n)), 0 ≤ r.2 := fun r hr => by
      rw [sp.cw] at hr
      have hm : ∀ x ∈ pre ++ post, 1 ≤ x.2 := fun x hx => pos x (by
        rw [sp.eq]
        rcases List.mem_append.mp hx with z | z
        · exact List.mem_append_left _ z
        · exact List.mem_append_right _ (List.mem_cons_of_mem _ z))
      rcases List.mem_append.mp hr with z | z
      · have := hm r (List.mem_append_left _ z)
        omega
      · rcases List.mem_cons.mp z with z | z
        · rw [z]
          show 0 ≤ e.2 - n
          omega
        · have := hm r (List.mem_append_right _ z)
          omega
    obtain ⟨l, pl, sl⟩ := even_order nn2 asc2 h3 h4
    refine ⟨l ++ List.replicate n.toNat k, (pl.append_right _).trans (it_cwX sp n1 nc), ?_⟩
    rw [stI_app, sl]
    obtain ⟨m, hm⟩ : ∃ m : Nat, n.toNat = m + 1 := ⟨n.toNat - 1, by omega⟩
    rw [hm, it_step m none k (fun r e => by cases e)]
    show some (k, (m : Int) + 1) = some (k, n)
    congr 2
    omega
theorem inv_items : ∀ l : List Str, InvS l (stI l none) := by
  have gen : ∀ n (l : List Str), l.length = n → InvS l (stI l none) := by
    intro n
    induction n with
    | zero =>
      intro l h
      rw [List.eq_nil_of_length_eq_zero h]
      exact InvS.nil
    | succ n ih =>
      intro l h
      rcases List.eq_nil_or_concat l with z | ⟨t, x, z⟩
      · rw [z] at h; cases h
      · rw [List.concat_eq_append] at z
        subst z
        rw [List.length_append] at h
        rw [stI_snocP]
        exact (ih t (Nat.succ.inj h)).step x 1 (by decide)
  exact fun l => gen _ l rfl
/-! ### keys: what is left of each kind, and the state -/
abbrev KY := List Int × Option Run
def leftL (cs : List Run) (l : List Str) : List Int := cs.map fun r => r.2 - ((l.count r.1 : Nat) : Int)
def OkW (cs : List Run) (l : List Str) : Prop := (∀ x ∈ l, x ∈ cs.map (·.1)) ∧ ∀ r ∈ cs, ((l.count r.1 : Nat) : Int) ≤ r.2
def Rc (cs : List Run) (m : Nat) (p : KY) : Prop := ∃ l : List Str, l.length = m ∧ OkW cs l ∧ p = (leftL cs l, stI l none)
def nxK (p : KY) (i : Nat) (x : Int) (k : Str) : KY := (p.1.take i ++ [x - 1] ++ p.1.drop (i + 1), stepR p.2 k 1)
theorem left_snoc {cs : List Run} (asc : Asc cs) {i : Nat} {r : Run} (hi : cs[i]? = some r) (l : List Str) : leftL cs (l ++ [r.1]) = (leftL cs l).take i ++ [r.2 - ((l.count r.1 : Nat) : Int) - 1] ++ (leftL cs l).drop (i + 1) := by
  refine List.ext_getElem? fun j => ?_
  have li : i < cs.length := (List.getElem?_eq_some_iff.mp hi).1
  have cj : ∀ (y : Run), cs[j]? = some y → j ≠ i → (l ++ [r.1]).count y.1 = l.count y.1 := fun y hy ne => by
    rw [List.count_append, List.count_singleton]
    have := asc_ne asc ne hy hi
    rw [if_neg (by simpa using fun z => this z.symm)]
    rfl
  have ll : (leftL cs l).length = cs.length := List.length_map ..
  rcases Nat.lt_trichotomy j i with h | h | h
  · rw [List.append_assoc, List.getElem?_append_left (by rw [List.length_take]; omega), List.getElem?_take, if_pos h]
    unfold leftL
    rw [List.getElem?_map, List.getElem?_map]
    cases e : cs[j]? with
    | none => rfl
    | some y =>
      show some (y.2 - (((l ++ [r.1]).count y.1 : Nat) : Int)) = some (y.2 - ((l.count y.1 : Nat) : Int))
      rw [cj y e (by omega)]
  · subst h
    rw [List.append_assoc, List.getElem?_append_right (by rw [List.length_take]; omega), List.length_take, show j - min j (leftL cs l).length = 0 by omega]
    unfold leftL
    rw [List.getElem?_map, hi]
    show some (r.2 - (((l ++ [r.1]).count r.1 : Nat) : Int)) = some (r.2 - ((l.count r.1 : Nat) : Int) - 1)
    rw [List.count_append, List.count_singleton]
    simp
    omega
  · rw [List.getElem?_append_right (by rw [List.length_append, List.length_take]; show min i _ + 1 ≤ j; omega), List.length_append, List.length_take, List.getElem?_drop]
    rw [show i + 1 + (j - (min i (leftL cs l).length + [r.2 - ((l.count r.1 : Nat) : Int) - 1].length)) = j by show i + 1 + (j - (min i _ + 1)) = j; omega]
    unfold leftL
    rw [List.getElem?_map, List.getElem?_map]
    cases e : cs[j]? with
    | none => rfl
    | some y =>
      show some (y.2 - (((l ++ [r.1]).count y.1 : Nat) : Int)) = some (y.2 - ((l.count y.1 : Nat) : Int))
      rw [cj y e (by omega)]
theorem left_at {cs : List Run} {l : List Str} {i : Nat} {r : Run} {x : Int} (hi : cs[i]? = some r) (hx : (leftL cs l)[i]? = some x) : x = r.2 - ((l.count r.1 : Nat) : Int) := by
  unfold leftL at hx
  rw [List.getElem?_map, hi] at hx
  exact (Option.some.inj hx).symm
theorem Rc.step {cs : List Run} (asc : Asc cs) {m : Nat} {p : KY} {i : Nat} {r : Run} {x : Int} (h : Rc cs m p) (hi : cs[i]? = some r) (hx : p.1[i]? = some x) (x0 : 0 < x) : Rc cs (m + 1) (nxK p i x r.1) := by
  obtain ⟨l, e, ⟨o1, o2⟩, rfl⟩ := h
  have ex := left_at hi hx
  have hr := List.mem_of_getElem? hi
  refine ⟨l ++ [r.1], by rw [List.length_append, e]; rfl, ⟨fun y hy => ?_, fun y hy => ?_⟩, ?_⟩
  · rcases List.mem_append.mp hy with z | z
    · exact o1 y z
    · rw [List.mem_singleton.mp z]
      exact List.mem_map.mpr ⟨r, hr, rfl⟩
  · rw [List.count_append, List.count_singleton]
    by_cases z : r.1 = y.1
    · obtain ⟨j, hj⟩ := List.getElem?_of_mem hy
      have : j = i := Classical.byContradiction fun n => asc_ne asc n hj hi z.symm
      rw [this, hi] at hj
      cases hj
      simp
      omega
    · rw [if_neg (by simpa using z)]
      exact o2 y hy
  · unfold nxK
    rw [left_snoc asc hi, stI_snocP, ex]
theorem Rc.pred {cs : List Run} (asc : Asc cs) {m : Nat} {q : KY} (h : Rc cs (m + 1) q) : ∃ p i r x, Rc cs m p ∧ cs[i]? = some r ∧ p.1[i]? = some x ∧ 0 < x ∧ q = nxK p i x r.1 := by
  obtain ⟨l, e, ⟨o1, o2⟩, rfl⟩ := h
  rcases List.eq_nil_or_concat l with z | ⟨t, y, z⟩
  · rw [z] at e; cases e
  · rw [List.concat_eq_append] at z
    subst z
    obtain ⟨r, hr, ry⟩ := List.mem_map.mp (o1 y (List.mem_append_right _ (List.mem_singleton.mpr rfl)))
    have ry : r.1 = y := ry
    subst ry
    obtain ⟨i, hi⟩ := List.getElem?_of_mem hr
    have c := o2 r hr
    rw [List.count_append, List.count_singleton] at c
    simp at c
    refine ⟨(leftL cs t, stI t none), i, r, r.2 - ((t.count r.1 : Nat) : Int), ⟨t, by rw [List.length_append] at e; exact Nat.succ.inj e, ⟨fun z hz => o1 z (List.mem_append_left _ hz), fun z hz => ?_⟩, rfl⟩, hi, ?_, by omega, ?_⟩
    · have := o2 z hz
      rw [List.count_append] at this
      omega
    · show (leftL cs t)[i]? = _
      unfold leftL
      rw [List.getElem?_map, hi]
      rfl
    · unfold nxK
      rw [left_snoc asc hi, stI_snocP]
theorem left_sum {cs : List Run} (asc : Asc cs) : ∀ (n : Nat) (l : List Str), l.length = n → OkW cs l → (leftL cs l).sum = lenR cs - (l.length : Int) := by
  intro n
  induction n with
  | zero =>
    intro l h _
    rw [List.eq_nil_of_length_eq_zero h]
    have e : leftL cs [] = cs.map (·.2) := List.map_congr_left fun r _ => by show r.2 - ((0 : Nat) : Int) = r.2; omega
    rw [e]
    show (cs.map (·.2)).sum = lenR cs - 0
    rw [Int.sub_zero]
    rfl
  | succ n ih =>
    intro l h o
    obtain ⟨o1, o2⟩ := o
    rcases List.eq_nil_or_concat l with z | ⟨t, y, z⟩
    · rw [z] at h; cases h
    · rw [List.concat_eq_append] at z
      subst z
      obtain ⟨r, hr, ry⟩ := List.mem_map.mp (o1 y (List.mem_append_right _ (List.mem_singleton.mpr rfl)))
      have ry : r.1 = y := ry
      subst ry
      obtain ⟨i, hi⟩ := List.getElem?_of_mem hr
      rw [List.length_append] at h
      have hp := ih t (Nat.succ.inj h) ⟨fun z hz => o1 z (List.mem_append_left _ hz), fun z hz => by
        have := o2 z hz
        rw [List.count_append] at this
        omega⟩
      have li : i < (leftL cs t).length := by
        unfold leftL
        rw [List.length_map]
        exact (List.getElem?_eq_some_iff.mp hi).1
      have ei : (leftL cs t)[i] = r.2 - ((t.count r.1 : Nat) : Int) := by
        have : (leftL cs t)[i]? = some (r.2 - ((t.count r.1 : Nat) : Int)) := by
          unfold leftL
          rw [List.getElem?_map, hi]
          rfl
        rw [List.getElem?_eq_getElem li] at this
        exact Option.some.inj this
      have e2 : leftL cs t = (leftL cs t).take i ++ (r.2 - ((t.count r.1 : Nat) : Int)) :: (leftL cs t).drop (i + 1) := by
        rw [← ei, ← List.drop_eq_getElem_cons li, List.take_append_drop]
      rw [left_snoc asc hi]
      rw [e2] at hp
      simp only [List.sum_append, List.sum_cons, List.sum_nil] at hp ⊢
      rw [List.length_append]
      show _ = lenR cs - ((t.length + 1 : Nat) : Int)
      omega
theorem sum_zero : ∀ {l : List Int}, (∀ x ∈ l, 0 ≤ x) → l.sum = 0 → ∀ x ∈ l, x = 0
  | [], _, _, _, h => by cases h
  | y :: l, h, e, x, hx => by
    rw [List.sum_cons] at e
    have y0 := h y (List.mem_cons_self ..)
    have s0 : 0 ≤ l.sum := by
      have gen : ∀ l : List Int, (∀ x ∈ l, 0 ≤ x) → 0 ≤ l.sum := by
        intro l
        induction l with
        | nil => intro _; exact Int.le_refl _
        | cons z t ih =>
          intro h
          rw [List.sum_cons]
          have := h z (List.mem_cons_self ..)
          have := ih fun x hx => h x (List.mem_cons_of_mem _ hx)
          omega
      exact gen l fun x hx => h x (List.mem_cons_of_mem _ hx)
    rcases List.mem_cons.mp hx with z | z
    · rw [z]; omega
    · exact sum_zero (fun x hx => h x (List.mem_cons_of_mem _ hx)) (by omega) x z
def zerosL (cs : List Run) : List Int := cs.map fun _ => 0
/-- at the end: nothing is left, and the states are those that can remain -/
theorem rc_end {cs : List Run} (pos : ∀ r ∈ cs, 1 ≤ r.2) (asc : Asc cs) {p : KY} : Rc cs (lenR cs).toNat p ↔ p.1 = zerosL cs ∧ PosO p.2 ∧ CanR cs p.2 := by
  have l0 : 0 ≤ lenR cs := lenR_nn pos
  constructor
  · rintro ⟨l, e, o, rfl⟩
    have s := left_sum asc _ l rfl o
    rw [e] at s
    have z := sum_zero (l := leftL cs l) (fun x hx => by
      obtain ⟨r, hr, rfl⟩ := List.mem_map.mp hx
      have := o.2 r hr
      show 0 ≤ r.2 - _
      omega) (by omega)
    have cnt : ∀ r ∈ cs, r.2 = ((l.count r.1 : Nat) : Int) := fun r hr => by
      have := z _ (List.mem_map.mpr ⟨r, hr, rfl⟩)
      omega
    have ct : CT cs l := by
      refine ⟨List.pairwise_map.mpr (List.pairwise_iff_getElem.mpr fun i j hi hj lt => ?_), cnt, fun k => ⟨o.1 k, fun hk => ?_⟩, ?_⟩
      · exact asc_ne asc (Nat.ne_of_lt lt) (List.getElem?_eq_getElem hi) (List.getElem?_eq_getElem hj)
      · obtain ⟨r, hr, rk⟩ := List.mem_map.mp hk
        have rk : r.1 = k := rk
        have h1 := cnt r hr
        have h2 := pos r hr
        rw [rk] at h1
        exact List.count_pos_iff.mp (by omega)
      · show lenR cs = _
        rw [e]
        omega
    have iv := inv_items l
    refine ⟨?_, iv.pos, can_after ct asc iv⟩
    show leftL cs l = zerosL cs
    exact List.map_congr_left fun r hr => by
      have := cnt r hr
      omega
  · rintro ⟨h1, h2, h3⟩
    obtain ⟨l, pl, sl⟩ := can_order pos asc h2 h3
    have cnt : ∀ r ∈ cs, ((l.count r.1 : Nat) : Int) = r.2 := fun r hr => by
      obtain ⟨pre, post, sp⟩ := split_of asc hr
      have p1 := pos r hr
      have na : ∀ {m : List Run}, (∀ x ∈ m, x.1 ≠ r.1) → (itR m).count r.1 = 0 := fun h => List.count_eq_zero_of_not_mem fun z => by
        obtain ⟨x, hx, hk, _⟩ := mem_it z
        exact h x hx hk
      have e : itR cs = itR pre ++ (List.replicate r.2.toNat r.1 ++ itR post) := by
        have : itR cs = itR (pre ++ (r.1, r.2) :: post) := congrArg itR sp.eq
        rw [this, it_app]
        rfl
      rw [pl.count_eq, e, List.count_append, List.count_append, na sp.pre, na sp.post, cnt_pos _ rfl]
      omega
    refine ⟨l, ?_, ⟨fun x hx => ?_, fun r hr => by rw [cnt r hr]; exact Int.le_refl _⟩, Prod.ext ?_ sl.symm⟩
    · have := len_it0 cs fun r hr => by have := pos r hr; omega
      rw [pl.length_eq]
      omega
    · obtain ⟨r, hr, hk, _⟩ := mem_it (pl.mem_iff.mp hx)
      exact List.mem_map.mpr ⟨r, hr, hk⟩
    · rw [h1]
      exact List.map_congr_left fun r hr => by
        have := cnt r hr
        omega
/-- how many keys there can be -/
def allW (ks : List Str) : Nat → List (List Str)
  | 0 => [[]]
  | n + 1 => (allW ks n).flatMap fun l => ks.map fun k => l ++ [k]
theorem allW_len (ks : List Str) : ∀ n, (allW ks n).length = ks.length ^ n
  | 0 => rfl
  | n + 1 => by
    have gen : ∀ M : List (List Str), (M.flatMap fun l => ks.map fun k => l ++ [k]).length = M.length * ks.length := by
      intro M
      induction M with
      | nil => simp
      | cons k t ih => rw [List.flatMap_cons, List.length_append, ih, List.length_map, List.length_cons, Nat.add_mul, Nat.one_mul, Nat.add_comm]
    show ((allW ks n).flatMap fun l => ks.map fun k => l ++ [k]).length = _
    rw [gen, allW_len ks n, Nat.pow_succ]
theorem allW_mem {ks : List Str} : ∀ (n : Nat) (l : List Str), l.length = n → (∀ x ∈ l, x ∈ ks) → l ∈ allW ks n
  | 0, l, h, _ => by
    rw [List.eq_nil_of_length_eq_zero h]
    exact List.mem_singleton.mpr rfl
  | n + 1, l, h, hk => by
    rcases List.eq_nil_or_concat l with z | ⟨t, x, z⟩
    · rw [z] at h; cases h
    · rw [List.concat_eq_append] at z
      subst z
      rw [List.length_append] at h
      exact List.mem_flatMap.mpr ⟨t, allW_mem n t (Nat.succ.inj h) (fun y hy => hk y (List.mem_append_left _ hy)), List.mem_map.mpr ⟨x, hk x (List.mem_append_right _ (List.mem_singleton.mpr rfl)), rfl⟩⟩
theorem nodup_subK {α : Type} [DecidableEq α] : ∀ (l B : List α), l.Nodup → (∀ x ∈ l, x ∈ B) → l.length ≤ B.length
  | [], _, _, _ => Nat.zero_le _
  | x :: l, B, nd, sub => by
    obtain ⟨n1, n2⟩ := List.nodup_cons.mp nd
    have hx := sub x List.mem_cons_self
    have h1 := nodup_subK l (B.erase x) n2 fun y hy => (List.mem_erase_of_ne (fun e => n1 (by rw [← e]; exact hy))).mpr (sub y (List.mem_cons_of_mem _ hy))
    have h2 := List.length_erase_of_mem hx
    have h3 := List.length_pos_of_mem hx
    rw [List.length_cons]
    omega
theorem rc_box {cs : List Run} {m : Nat} {hs : List KY} (l4 : cs.length ≤ 4) (m9 : m ≤ 9) (nd : hs.Nodup) (h : ∀ p ∈ hs, Rc cs m p) : hs.length ≤ 262144 := by
  have h1 := nodup_subK hs ((allW (cs.map (·.1)) m).map fun l => ((leftL cs l, stI l none) : KY)) nd fun p hp => by
    obtain ⟨l, e, o, rfl⟩ := h p hp
    exact List.mem_map.mpr ⟨l, allW_mem m l e o.1, rfl⟩
  rw [List.length_map, allW_len, List.length_map] at h1
  have h2 : cs.length ^ m ≤ 4 ^ m := Nat.pow_le_pow_left l4 m
  have h3 : 4 ^ m ≤ 4 ^ 9 := Nat.pow_le_pow_right (by decide) m9
  have h4 : (4 : Nat) ^ 9 = 262144 := by decide
  omega
end UP

set_option Elab.async false
set_option linter.all false
set_option maxRecDepth 100000
set_option maxHeartbeats 4000000
set_option pp.maxSteps 600
namespace UP
open PySem PySem.Spec PyProof.Rows L2
theorem room65 {A : Around} {k : Nat} (hr : Room k A) : A.units + 65 < cLine := by
  have := hr.un
  omega
def keyR : Option Run → NestedKey
  | none => .none
  | some r => .tup [.text r.1, .num r.2]
theorem keyR_inj {a b : Option Run} (h : keyR a = keyR b) : a = b := by
  cases a with
  | none => cases b with
    | none => rfl
    | some s => cases h
  | some r => cases b with
    | none => cases h
    | some s =>
      obtain ⟨r1, r2⟩ := r
      obtain ⟨s1, s2⟩ := s
      simp only [keyR, NestedKey.tup.injEq, List.cons.injEq, NestedKey.text.injEq, NestedKey.num.injEq] at h
      rw [h.1, h.2.1]
theorem key_st {H : Hp} {v : V} {st : Option Run} (h : StV H v st) : KeyIn H (keyR st) v := by
  cases st with
  | none =>
    cases h
    exact ⟨.non, by decide, .inl rfl⟩
  | some r =>
    obtain ⟨t, rfl, ht⟩ := h
    exact ⟨.tup ht (.cons (.str _) (.cons (.int _) .nil)), by show NestedKey.depth (.tup [.text r.1, .num r.2]) ≤ 8; simp [NestedKey.depth, NestedKey.depthAll], .inr ⟨t, rfl⟩⟩
/-- all but two objects stay -/
def But2 (p d : Addr) (H H' : Hp) : Prop := ∀ b o, b ≠ p → b ≠ d → H b = some o → H' b = some o
theorem But2.trans {p d : Addr} {H H1 H2 : Hp} (a : But2 p d H H1) (b : But2 p d H1 H2) : But2 p d H H2 := fun c o n1 n2 h => b c o n1 n2 (a c o n1 n2 h)
theorem But2.of {p d : Addr} {H H' : Hp} (s : Same H H') : But2 p d H H' := fun c o _ _ h => s c o h
theorem But2.p {p d : Addr} {H : Hp} {o : HO} : But2 p d H (upd H p o) := fun c u n1 _ h => by rw [upd_ne n1]; exact h
theorem But2.d {p d : Addr} {H : Hp} {o : HO} : But2 p d H (upd H d o) := fun c u _ n2 h => by rw [upd_ne n2]; exact h
/-- neither of the two is a tuple -/
def NoTup (H : Hp) (p : Addr) : Prop := ∀ xs, H p ≠ some (.tup xs)
theorem StV.but2 {p d : Addr} {H H' : Hp} {v : V} {st : Option Run} (b : But2 p d H H') (np : NoTup H p) (nd : NoTup H d) (h : StV H v st) : StV H' v st := by
  cases st with
  | none => exact h
  | some r =>
    obtain ⟨t, rfl, ht⟩ := h
    exact ⟨t, rfl, b _ _ (fun z => np _ (z ▸ ht)) (fun z => nd _ (z ▸ ht)) ht⟩
theorem sts_but2 {p d : Addr} {H H' : Hp} {xs : List V} {l : List (Option Run)} (b : But2 p d H H') (np : NoTup H p) (nd : NoTup H d) (h : Paired (StV H) xs l) : Paired (StV H') xs l := Paired.imp (fun _ _ => StV.but2 b np nd) h
theorem noTup_lst {H : Hp} {p : Addr} {xs : List V} (h : H p = some (.lst xs)) : NoTup H p := fun ys z => by rw [h] at z; cases z
theorem noTup_dx {w : World} {H : Hp} {p : Addr} {rows : List RowX} (h : H p = some (DX w p rows)) : NoTup H p := fun ys z => by rw [h] at z; cases z
/-- all tuples stay -/
def Tups (H H' : Hp) : Prop := ∀ b xs, H b = some (.tup xs) → H' b = some (.tup xs)
theorem Tups.trans {H H1 H2 : Hp} (a : Tups H H1) (b : Tups H1 H2) : Tups H H2 := fun c xs h => b c xs (a c xs h)
theorem Tups.of {H H' : Hp} (s : Same H H') : Tups H H' := fun c xs h => s c _ h
theorem Tups.put {H : Hp} {p : Addr} {o : HO} (h : NoTup H p) : Tups H (upd H p o) := fun c xs e => by
  have n : c ≠ p := fun z => by
    rw [z] at e
    exact h xs e
  rw [upd_ne n]
  exact e
theorem StV.tups {H H' : Hp} {v : V} {s : Option Run} (t : Tups H H') (h : StV H v s) : StV H' v s := by
  cases s with
  | none => exact h
  | some r =>
    obtain ⟨a, rfl, ha⟩ := h
    exact ⟨a, rfl, t _ _ ha⟩
/-! ### keys of what is left and the state -/
def keyY (p : KY) : NestedKey := .tup [.tup (p.1.map .num), keyR p.2]
theorem nums_inj : ∀ {a b : List Int}, a.map NestedKey.num = b.map NestedKey.num → a = b
  | [], [], _ => rfl
  | [], _ :: _, h => by cases h
  | _ :: _, [], h => by cases h
  | x :: a, y :: b, h => by
    simp only [List.map_cons, List.cons.injEq, NestedKey.num.injEq] at h
    rw [h.1, nums_inj h.2]
theorem keyY_inj {p q : KY} (h : keyY p = keyY q) : p = q := by
  unfold keyY at h
  simp only [NestedKey.tup.injEq, List.cons.injEq] at h
  exact Prod.ext (nums_inj h.1) (keyR_inj h.2.1)
def KyV (H : Hp) (x : V) (p : KY) : Prop := ∃ t tl v, x = .ref t ∧ H t = some (.tup [.ref tl, v]) ∧ H tl = some (.tup (p.1.map V.int)) ∧ StV H v p.2
theorem KyV.tups {H H' : Hp} {x : V} {p : KY} (t : Tups H H') (h : KyV H x p) : KyV H' x p := by
  obtain ⟨a, b, v, rfl, ha, hb, hv⟩ := h
  exact ⟨a, b, v, rfl, t _ _ ha, t _ _ hb, hv.tups t⟩
theorem nks_ints {H : Hp} : ∀ l : List Int, NKs H (l.map .num) (l.map V.int)
  | [] => .nil
  | x :: t => .cons (.int x) (nks_ints t)
theorem nks_back {H : Hp} : ∀ {l : List Int} {xs : List V}, NKs H (l.map .num) xs → xs = l.map V.int
  | [], _, .nil => rfl
  | x :: t, _, .cons (.int _) h => by rw [nks_back h]; rfl
theorem st_back {H : Hp} {v : V} {s : Option Run} (h : NK H (keyR s) v) : StV H v s := by
  cases s with
  | none =>
    have h : NK H .none v := h
    cases h
    rfl
  | some r =>
    have h : NK H (.tup [.text r.1, .num r.2]) v := h
    cases h with
    | tup ha hs =>
      cases hs with
      | cons h1 hs =>
      cases hs with
      | cons h2 hs =>
      cases hs
      cases h1
      cases h2
      exact ⟨_, rfl, ha⟩
theorem ky_back {H : Hp} {v : V} {p : KY} (h : NK H (keyY p) v) : KyV H v p := by
  have h : NK H (.tup [.tup (p.1.map .num), keyR p.2]) v := h
  cases h with
  | tup ha hs =>
    cases hs with
    | cons h1 hs =>
    cases hs with
    | cons h2 hs =>
    cases hs
    cases h1 with
    | tup hb hx =>
      rw [nks_back hx] at hb
      exact ⟨_, _, _, rfl, ha, hb, st_back h2⟩
theorem dep_nums : ∀ l : List Int, NestedKey.depthAll (l.map .num) ≤ 1
  | [] => by simp [NestedKey.depthAll]
  | x :: t => by
    have := dep_nums t
    simp only [List.map_cons, NestedKey.depthAll, NestedKey.depth]
    omega
theorem KyV.key {H : Hp} {x : V} {p : KY} (h : KyV H x p) : KeyIn H (keyY p) x := by
  obtain ⟨t, tl, v, rfl, ht, hl, hv⟩ := h
  have dp : ∀ s : Option Run, (keyR s).depth ≤ 2 := fun s => by
    cases s with
    | none => simp [keyR, NestedKey.depth]
    | some r => simp [keyR, NestedKey.depth, NestedKey.depthAll]
  refine ⟨.tup ht (.cons (.tup hl (nks_ints _)) (.cons (key_st hv).tell .nil)), ?_, .inr ⟨t, rfl⟩⟩
  have h1 := dep_nums p.1
  have h2 := dp p.2
  unfold keyY
  simp only [NestedKey.depth, NestedKey.depthAll]
  omega
theorem put_keys {rows : List RowX} {k : NestedKey} {y v : V} : (putX rows k y v).map (·.1) = if k ∈ rows.map (·.1) then rows.map (·.1) else rows.map (·.1) ++ [k] := by
  unfold putX
  cases e : Dx.place (rows.map (·.1)) k with
  | some i =>
    have := Dx.place_ok e
    rw [if_pos (List.mem_of_getElem? this)]
    exact modify_keys
  | none =>
    rw [if_neg (Dx.place_none e), List.map_append]
    rfl
def addK (hs : List KY) (q : KY) : List KY := if q ∈ hs then hs else hs ++ [q]
theorem put_ky {rows : List RowX} {hs : List KY} {q : KY} {y v : V} (e : rows.map (·.1) = hs.map keyY) : (putX rows (keyY q) y v).map (·.1) = (addK hs q).map keyY := by
  rw [put_keys, e]
  unfold addK
  by_cases c : q ∈ hs
  · rw [if_pos c, if_pos (List.mem_map.mpr ⟨q, c, rfl⟩)]
  · rw [if_neg c, if_neg (fun z => by
      obtain ⟨p, hp, ep⟩ := List.mem_map.mp z
      rw [keyY_inj ep] at hp
      exact c hp), List.map_append]
    rfl
theorem addK_mem {hs : List KY} {q p : KY} : p ∈ addK hs q ↔ p ∈ hs ∨ p = q := by
  unfold addK
  by_cases c : q ∈ hs
  · rw [if_pos c]
    exact ⟨.inl, fun h => h.elim id fun e => e ▸ c⟩
  · rw [if_neg c]
    simp
theorem addK_nodup {hs : List KY} {q : KY} (h : hs.Nodup) : (addK hs q).Nodup := by
  unfold addK
  by_cases c : q ∈ hs
  · rw [if_pos c]
    exact h
  · rw [if_neg c]
    refine List.nodup_append.mpr ⟨h, List.nodup_cons.mpr ⟨List.not_mem_nil, List.nodup_nil⟩, fun x hx y hy => ?_⟩
    rw [List.mem_singleton.mp hy]
    exact fun z => c (z ▸ hx)
theorem cut_takeX (xs : List V) (r : Nat) (h1 : r ≤ xs.length) : cutV xs none (some (r : Int)) = xs.take r := by
  unfold cutV
  rw [HT.sIx_none, HT.sIx_nat, List.drop_zero, Nat.sub_zero, Nat.min_eq_left h1]
end UP

set_option Elab.async false
set_option linter.all false
set_option maxRecDepth 100000
set_option maxHeartbeats 4000000
set_option pp.maxSteps 600
namespace UP
open PySem PySem.Spec PyProof.Rows L2
/-! ### marks: how many of each kind have come, as one number -/
def prodM : List Run → Nat
  | [] => 1
  | r :: t => (r.2.toNat + 1) * prodM t
def stepsM : List Run → List (Run × Nat)
  | [] => []
  | r :: t => (r, prodM t) :: stepsM t
def digM (p : Run × Nat) (m : Nat) : Nat := m / p.2 % (p.1.2.toNat + 1)
theorem prodM_pos : ∀ cs : List Run, 0 < prodM cs
  | [] => Nat.one_pos
  | r :: t => Nat.mul_pos (Nat.succ_pos _) (prodM_pos t)
theorem stepsM_fst : ∀ cs : List Run, (stepsM cs).map (·.1) = cs
  | [] => rfl
  | r :: t => by rw [stepsM, List.map_cons, stepsM_fst t]
theorem stepsM_at {cs : List Run} {i : Nat} {p : Run × Nat} (h : (stepsM cs)[i]? = some p) : cs[i]? = some p.1 := by
  have := congrArg (·[i]?) (stepsM_fst cs)
  simp only [List.getElem?_map, h] at this
  exact this.symm
theorem stepsM_dvd : ∀ {cs : List Run} {p : Run × Nat}, p ∈ stepsM cs → p.2 * (p.1.2.toNat + 1) ∣ prodM cs
  | r :: t, p, h => by
    rcases List.mem_cons.mp h with rfl | h
    · exact ⟨1, by show _ = prodM t * (r.2.toNat + 1) * 1; rw [prodM, Nat.mul_one, Nat.mul_comm]⟩
    · exact Nat.dvd_trans (stepsM_dvd h) ⟨r.2.toNat + 1, by rw [prodM, Nat.mul_comm]⟩
theorem stepsM_pos : ∀ {cs : List Run} {p : Run × Nat}, p ∈ stepsM cs → 0 < p.2
  | r :: t, p, h => by
    rcases List.mem_cons.mp h with rfl | h
    · exact prodM_pos t
    · exact stepsM_pos h
theorem dig_mod {cs : List Run} {p : Run × Nat} (h : p ∈ stepsM cs) (m : Nat) : digM p (m % prodM cs) = digM p m := by
  obtain ⟨e, he⟩ := stepsM_dvd h
  unfold digM
  rw [he, Nat.mul_assoc, Nat.mod_mul_right_div_self, Nat.mod_mod_of_dvd _ ⟨e, rfl⟩]
theorem dig_zero (p : Run × Nat) : digM p 0 = 0 := by
  unfold digM
  rw [Nat.zero_div, Nat.zero_mod]
theorem dig_le (p : Run × Nat) (m : Nat) : digM p m ≤ p.1.2.toNat := Nat.le_of_lt_succ (Nat.mod_lt _ (Nat.succ_pos _))
theorem dig_head {r : Run} {t : List Run} {m : Nat} (h : m < prodM (r :: t)) : digM (r, prodM t) m = m / prodM t := by
  unfold digM
  exact Nat.mod_eq_of_lt ((Nat.div_lt_iff_lt_mul (prodM_pos t)).mpr h)
theorem mod_up {m s P : Nat} (h : m % P + s < P) : (m + s) % P = m % P + s ∧ (m + s) / P = m / P := by
  have e : m + s = P * (m / P) + (m % P + s) := by
    have := Nat.div_add_mod m P
    omega
  have p : 0 < P := by omega
  constructor
  · rw [e, Nat.mul_add_mod, Nat.mod_eq_of_lt h]
  · rw [e, Nat.mul_add_div p, Nat.div_eq_of_lt h, Nat.add_zero]
theorem dig_up : ∀ {cs : List Run} {m i : Nat} {p : Run × Nat}, (stepsM cs)[i]? = some p → m < prodM cs → digM p m < p.1.2.toNat →
    m + p.2 < prodM cs ∧ digM p (m + p.2) = digM p m + 1 ∧ ∀ (j : Nat) (q : Run × Nat), (stepsM cs)[j]? = some q → j ≠ i → digM q (m + p.2) = digM q m
  | r :: t, m, 0, p, hp, hm, hd => by
    obtain rfl : (r, prodM t) = p := Option.some.inj hp
    have P0 := prodM_pos t
    rw [dig_head hm] at hd ⊢
    have hd : m / prodM t < r.2.toNat := hd
    have b : m + prodM t < prodM (r :: t) := by
      have h1 : m < (m / prodM t + 1) * prodM t := by
        rw [Nat.add_mul, Nat.one_mul, Nat.mul_comm]
        exact Nat.lt_mul_div_succ m P0 |> fun h => by rwa [Nat.mul_add, Nat.mul_one] at h
      have h2 : (m / prodM t + 1) * prodM t ≤ r.2.toNat * prodM t := Nat.mul_le_mul_right _ hd
      show m + prodM t < (r.2.toNat + 1) * prodM t
      rw [Nat.add_mul, Nat.one_mul]
      omega
    refine ⟨b, ?_, fun j q hq ne => ?_⟩
    · rw [dig_head b]
      exact Nat.add_div_right m P0
    · cases j with
      | zero => exact absurd rfl ne
      | succ j =>
        have hq : (stepsM t)[j]? = some q := hq
        have mq := List.mem_of_getElem? hq
        rw [← dig_mod mq (m + prodM t), ← dig_mod mq m, Nat.add_mod_right]
  | r :: t, m, i + 1, p, hp, hm, hd => by
    have hp : (stepsM t)[i]? = some p := hp
    have mp := List.mem_of_getElem? hp
    have P0 := prodM_pos t
    obtain ⟨b, e, o⟩ := dig_up hp (Nat.mod_lt m P0) (by rw [dig_mod mp]; exact hd)
    obtain ⟨u1, u2⟩ := mod_up b
    have hb : m + p.2 < prodM (r :: t) := by
      refine (Nat.div_lt_iff_lt_mul P0).mp ?_
      rw [u2]
      exact (Nat.div_lt_iff_lt_mul P0).mpr hm
    refine ⟨hb, ?_, fun j q hq ne => ?_⟩
    · rw [← dig_mod mp (m + p.2), u1, e, dig_mod mp]
    · cases j with
      | zero =>
        obtain rfl : (r, prodM t) = q := Option.some.inj hq
        rw [dig_head hb, dig_head hm, u2]
      | succ j =>
        have hq : (stepsM t)[j]? = some q := hq
        have mq := List.mem_of_getElem? hq
        rw [← dig_mod mq (m + p.2), u1, o j q hq (fun z => ne (by rw [z])), dig_mod mq]
theorem dig_down : ∀ {cs : List Run} {m i : Nat} {p : Run × Nat}, (stepsM cs)[i]? = some p → m < prodM cs → 0 < digM p m → p.2 ≤ m ∧ digM p (m - p.2) < p.1.2.toNat
  | r :: t, m, 0, p, hp, hm, hd => by
    obtain rfl : (r, prodM t) = p := Option.some.inj hp
    have P0 := prodM_pos t
    have hl := dig_le (r, prodM t) m
    rw [dig_head hm] at hd hl
    have hl : m / prodM t ≤ r.2.toNat := hl
    have b : prodM t ≤ m := Classical.byContradiction fun z => by
      rw [Nat.div_eq_of_lt (by omega)] at hd
      exact absurd hd (Nat.lt_irrefl _)
    refine ⟨b, ?_⟩
    show digM (r, prodM t) (m - prodM t) < r.2.toNat
    rw [dig_head (Nat.lt_of_le_of_lt (Nat.sub_le _ _) hm)]
    have : m / prodM t = (m - prodM t) / prodM t + 1 := by
      conv => lhs; rw [← Nat.sub_add_cancel b]
      exact Nat.add_div_right _ P0
    omega
  | r :: t, m, i + 1, p, hp, hm, hd => by
    have hp : (stepsM t)[i]? = some p := hp
    have mp := List.mem_of_getElem? hp
    have P0 := prodM_pos t
    obtain ⟨b, e⟩ := dig_down hp (Nat.mod_lt m P0) (by rw [dig_mod mp]; exact hd)
    have ml := Nat.mod_le m (prodM t)
    have hs : (m - p.2) % prodM t = m % prodM t - p.2 := by
      have e2 : m - p.2 = prodM t * (m / prodM t) + (m % prodM t - p.2) := by
        have := Nat.div_add_mod m (prodM t)
        omega
      have lt : m % prodM t - p.2 < prodM t := Nat.lt_of_le_of_lt (Nat.sub_le _ _) (Nat.mod_lt m P0)
      rw [e2, Nat.mul_add_mod, Nat.mod_eq_of_lt lt]
    refine ⟨Nat.le_trans b ml, ?_⟩
    rw [← dig_mod mp (m - p.2), hs]
    exact e
theorem dig_none : ∀ {cs : List Run} {m : Nat}, m < prodM cs → (∀ p ∈ stepsM cs, digM p m = 0) → m = 0
  | [], m, hm, _ => by
    have : m < 1 := hm
    omega
  | r :: t, m, hm, h => by
    have h0 := h _ (List.mem_cons_self ..)
    rw [dig_head hm] at h0
    have lt : m < prodM t := by
      rcases (Nat.div_eq_zero_iff).mp h0 with z | z
      · have := prodM_pos t
        omega
      · exact z
    exact dig_none lt fun p hp => h p (List.mem_cons_of_mem _ hp)
theorem dig_last : ∀ {cs : List Run} {p : Run × Nat}, p ∈ stepsM cs → digM p (prodM cs - 1) = p.1.2.toNat
  | r :: t, p, h => by
    have P0 := prodM_pos t
    have e : prodM (r :: t) - 1 = prodM t * r.2.toNat + (prodM t - 1) := by
      show (r.2.toNat + 1) * prodM t - 1 = _
      rw [Nat.add_mul, Nat.one_mul, Nat.mul_comm]
      omega
    have lt : prodM t - 1 < prodM t := by omega
    rcases List.mem_cons.mp h with rfl | h
    · rw [dig_head (by have := prodM_pos (r :: t); omega), e, Nat.mul_add_div P0, Nat.div_eq_of_lt lt, Nat.add_zero]
    · rw [← dig_last h, ← dig_mod h, e, Nat.mul_add_mod, Nat.mod_eq_of_lt lt]
end UP

set_option Elab.async false
set_option linter.all false
set_option maxRecDepth 100000
set_option maxHeartbeats 4000000
set_option pp.maxSteps 600
namespace UP
open PySem PySem.Spec PyProof.Rows L2
/-! ### the states behind all orders of some counts -/
def decR (k : Str) (r : Run) : Run := (r.1, r.2 - if r.1 = k then 1 else 0)
def posR (cs : List Run) : List Run := cs.filter fun r => decide (0 < r.2)
def lessR (cs : List Run) (k : Str) : List Run := posR (cs.map (decR k))
def endsL : Nat → List Run → List (Option Run)
  | 0, _ => [none]
  | T + 1, cs => cs.flatMap fun r => (endsL T (lessR cs r.1)).map fun s => stepR s r.1 1
def endsR (cs : List Run) : List (Option Run) := endsL (lenR cs).toNat cs
structure Okc (cs : List Run) : Prop where
  pos : ∀ r ∈ cs, 1 ≤ r.2
  asc : Asc cs
theorem posR_mem {cs : List Run} {r : Run} : r ∈ posR cs ↔ r ∈ cs ∧ 0 < r.2 := by
  unfold posR
  rw [List.mem_filter, decide_eq_true_iff]
theorem posR_len : ∀ {cs : List Run}, (∀ r ∈ cs, 0 ≤ r.2) → lenR (posR cs) = lenR cs
  | [], _ => rfl
  | r :: t, h => by
    have ih := posR_len (cs := t) fun x hx => h x (List.mem_cons_of_mem _ hx)
    have h0 := h r (List.mem_cons_self ..)
    unfold posR at ih ⊢
    by_cases c : 0 < r.2
    · rw [List.filter_cons_of_pos (by simpa using c), lenR_cons, lenR_cons, ih]
    · rw [List.filter_cons_of_neg (by simpa using c), lenR_cons, ih]
      omega
theorem posR_pos {cs : List Run} : ∀ r ∈ posR cs, 1 ≤ r.2 := fun r h => (posR_mem.mp h).2
theorem asc_pairX {cs : List Run} : Asc cs ↔ cs.Pairwise fun x y => x.1.cps.toList < y.1.cps.toList := by
  constructor
  · intro h
    exact List.pairwise_iff_getElem.mpr fun i j hi hj lt => asc_lt h i j _ _ lt (List.getElem?_eq_getElem hi) (List.getElem?_eq_getElem hj)
  · intro h i x y hx hy
    obtain ⟨h1, e1⟩ := List.getElem?_eq_some_iff.mp hx
    obtain ⟨h2, e2⟩ := List.getElem?_eq_some_iff.mp hy
    have := List.pairwise_iff_getElem.mp h i (i + 1) h1 h2 (Nat.lt_succ_self i)
    rw [e1, e2] at this
    exact this
theorem asc_map {cs : List Run} {f : Run → Run} (hf : ∀ r, (f r).1 = r.1) (h : Asc cs) : Asc (cs.map f) := by
  rw [asc_pairX] at h ⊢
  exact List.pairwise_map.mpr (h.imp fun {a b} lt => by rw [hf, hf]; exact lt)
theorem asc_pos {cs : List Run} (h : Asc cs) : Asc (posR cs) := asc_pairX.mpr ((asc_pairX.mp h).sublist List.filter_sublist)
theorem asc_one {cs : List Run} (h : Asc cs) {x y : Run} (hx : x ∈ cs) (hy : y ∈ cs) (e : x.1 = y.1) : x = y := by
  obtain ⟨i, hi⟩ := List.getElem?_of_mem hx
  obtain ⟨j, hj⟩ := List.getElem?_of_mem hy
  have : i = j := Classical.byContradiction fun n => asc_ne h n hi hj e
  rw [this, hj] at hi
  exact (Option.some.inj hi).symm
theorem decR_fst (k : Str) (r : Run) : (decR k r).1 = r.1 := rfl
theorem dec_nn {cs : List Run} (ok : Okc cs) (k : Str) : ∀ r ∈ cs.map (decR k), 0 ≤ r.2 := fun r h => by
  obtain ⟨x, hx, rfl⟩ := List.mem_map.mp h
  have := ok.pos x hx
  show 0 ≤ x.2 - ite _ _ _
  split <;> omega
theorem less_ok {cs : List Run} (ok : Okc cs) (k : Str) : Okc (lessR cs k) := ⟨posR_pos, asc_pos (asc_map (decR_fst k) ok.asc)⟩
theorem dec_len : ∀ {cs : List Run} {r : Run}, Asc cs → r ∈ cs → lenR (cs.map (decR r.1)) = lenR cs - 1 := by
  intro cs r asc hr
  obtain ⟨pre, post, sp⟩ := split_of asc hr
  have ho : ∀ l : List Run, (∀ x ∈ l, x.1 ≠ r.1) → l.map (decR r.1) = l := fun l h => by
    conv => rhs; rw [← List.map_id l]
    exact List.map_congr_left fun x hx => by
      show (x.1, x.2 - ite _ _ _) = x
      rw [if_neg (h x hx), Int.sub_zero]
  have e : cs = pre ++ r :: post := sp.eq
  rw [e, List.map_append, List.map_cons, ho pre sp.pre, ho post sp.post]
  have e2 : decR r.1 r = (r.1, r.2 - 1) := by
    unfold decR
    rw [if_pos rfl]
  rw [e2, lenR_app, lenR_app, lenR_cons, lenR_cons]
  show _ + (r.2 - 1 + _) = _ + (r.2 + _) - 1
  omega
theorem less_len {cs : List Run} (ok : Okc cs) {r : Run} (hr : r ∈ cs) : lenR (lessR cs r.1) = lenR cs - 1 := by
  unfold lessR
  rw [posR_len (dec_nn ok r.1), dec_len ok.asc hr]
theorem lenR_nnX {cs : List Run} (ok : Okc cs) : 0 ≤ lenR cs := lenR_nn ok.pos
theorem lenR_mem {cs : List Run} (ok : Okc cs) {r : Run} (hr : r ∈ cs) : 1 ≤ lenR cs := by
  have := less_len ok hr
  have := lenR_nnX (less_ok ok r.1)
  omega
theorem ends_step {cs : List Run} (ok : Okc cs) (n : cs ≠ []) : endsR cs = cs.flatMap fun r => (endsR (lessR cs r.1)).map fun s => stepR s r.1 1 := by
  obtain ⟨r, hr⟩ := List.exists_mem_of_ne_nil cs n
  have l1 := lenR_mem ok hr
  obtain ⟨T, hT⟩ : ∃ T : Nat, (lenR cs).toNat = T + 1 := ⟨(lenR cs).toNat - 1, by omega⟩
  unfold endsR
  rw [hT]
  show cs.flatMap _ = _
  have cg : ∀ {l : List Run} {f g : Run → List (Option Run)}, (∀ x ∈ l, f x = g x) → l.flatMap f = l.flatMap g := by
    intro l f g h
    induction l with
    | nil => rfl
    | cons x t ih =>
      rw [List.flatMap_cons, List.flatMap_cons, h x (List.mem_cons_self ..), ih fun y hy => h y (List.mem_cons_of_mem _ hy)]
  refine cg fun x hx => ?_
  have := less_len ok hx
  rw [show (lenR (lessR cs x.1)).toNat = T by omega]
theorem ends_nil : endsR [] = [none] := rfl
/-! ### members: the states that can remain -/
structure Wd (cs : List Run) (l : List Str) : Prop where
  kin : ∀ x ∈ l, x ∈ cs.map (·.1)
  cnt : ∀ r ∈ cs, ((l.count r.1 : Nat) : Int) = r.2
theorem wd_snoc {cs : List Run} (ok : Okc cs) {r : Run} (hr : r ∈ cs) {t : List Str} : Wd cs (t ++ [r.1]) ↔ Wd (lessR cs r.1) t := by
  have cs1 : ∀ x : Run, (t ++ [r.1]).count x.1 = t.count x.1 + if x.1 = r.1 then 1 else 0 := fun x => by
    rw [List.count_append, List.count_singleton]
    by_cases c : x.1 = r.1
    · rw [if_pos c, c, if_pos (by simp)]
    · rw [if_neg c, if_neg (by simpa using fun z => c z.symm)]
  constructor
  · rintro ⟨h1, h2⟩
    have hc : ∀ x ∈ cs, ((t.count x.1 : Nat) : Int) = (decR r.1 x).2 := fun x hx => by
      have := h2 x hx
      rw [cs1] at this
      show _ = x.2 - ite _ _ _
      by_cases c : x.1 = r.1
      · rw [if_pos c] at this ⊢
        omega
      · rw [if_neg c] at this ⊢
        omega
    constructor
    · intro x hx
      obtain ⟨y, hy, rfl⟩ := List.mem_map.mp (h1 x (List.mem_append_left _ hx))
      refine List.mem_map.mpr ⟨decR r.1 y, posR_mem.mpr ⟨List.mem_map.mpr ⟨y, hy, rfl⟩, ?_⟩, rfl⟩
      rw [← hc y hy]
      have := List.count_pos_iff.mpr hx
      omega
    · intro x hx
      obtain ⟨hx, _⟩ := posR_mem.mp hx
      obtain ⟨y, hy, rfl⟩ := List.mem_map.mp hx
      exact hc y hy
  · rintro ⟨h1, h2⟩
    have sub : ∀ x ∈ (lessR cs r.1).map (·.1), x ∈ cs.map (·.1) := fun x hx => by
      obtain ⟨y, hy, rfl⟩ := List.mem_map.mp hx
      obtain ⟨hy, _⟩ := posR_mem.mp hy
      obtain ⟨z, hz, rfl⟩ := List.mem_map.mp hy
      exact List.mem_map.mpr ⟨z, hz, rfl⟩
    constructor
    · intro x hx
      rcases List.mem_append.mp hx with hx | hx
      · exact sub x (h1 x hx)
      · rw [List.mem_singleton.mp hx]
        exact List.mem_map.mpr ⟨r, hr, rfl⟩
    · intro x hx
      rw [cs1]
      have hd : ((t.count x.1 : Nat) : Int) = (decR r.1 x).2 := by
        by_cases c : 0 < (decR r.1 x).2
        · exact h2 _ (posR_mem.mpr ⟨List.mem_map.mpr ⟨x, hx, rfl⟩, c⟩)
        · have n0 := dec_nn ok r.1 _ (List.mem_map.mpr ⟨x, hx, rfl⟩)
          have : t.count x.1 = 0 := List.count_eq_zero_of_not_mem fun z => by
            obtain ⟨y, hy, ey⟩ := List.mem_map.mp (h1 _ z)
            obtain ⟨hy, y0⟩ := posR_mem.mp hy
            obtain ⟨u, hu, rfl⟩ := List.mem_map.mp hy
            have : u = x := asc_one ok.asc hu hx ey
            rw [this] at y0
            exact c y0
          rw [this]
          omega
      have hd : ((t.count x.1 : Nat) : Int) = x.2 - if x.1 = r.1 then 1 else 0 := hd
      split at hd <;> rename_i c
      · rw [if_pos c]
        omega
      · rw [if_neg c]
        omega
theorem wd_len : ∀ (T : Nat) {cs : List Run} {l : List Str}, Okc cs → (lenR cs).toNat = T → Wd cs l → l.length = T
  | 0, cs, l, ok, hT, wd => by
    cases l with
    | nil => rfl
    | cons x t =>
      obtain ⟨r, hr, _⟩ := List.mem_map.mp (wd.kin x (List.mem_cons_self ..))
      have := lenR_mem ok hr
      omega
  | T + 1, cs, l, ok, hT, wd => by
    rcases List.eq_nil_or_concat l with z | ⟨t, k, z⟩
    · subst z
      have : cs = [] := by
        cases cs with
        | nil => rfl
        | cons r u =>
          have h1 := wd.cnt r (List.mem_cons_self ..)
          have h2 := ok.pos r (List.mem_cons_self ..)
          rw [List.count_nil] at h1
          omega
      rw [this] at hT
      cases hT
    · rw [List.concat_eq_append] at z
      subst z
      obtain ⟨r, hr, ek⟩ := List.mem_map.mp (wd.kin k (List.mem_append_right _ (List.mem_singleton.mpr rfl)))
      have ek : r.1 = k := ek
      subst ek
      have := less_len ok hr
      have ih := wd_len T (less_ok ok r.1) (by omega) ((wd_snoc ok hr).mp wd)
      rw [List.length_append, ih]
      rfl
theorem ends_mem : ∀ (T : Nat) {cs : List Run}, Okc cs → (lenR cs).toNat = T → ∀ s, s ∈ endsL T cs ↔ ∃ l, Wd cs l ∧ stI l none = s
  | 0, cs, ok, hT, s => by
    have en : cs = [] := by
      cases cs with
      | nil => rfl
      | cons r u =>
        have := lenR_mem ok (List.mem_cons_self ..)
        omega
    constructor
    · intro h
      obtain rfl := List.mem_singleton.mp h
      refine ⟨[], ⟨(fun x hx => by cases hx), fun r hr => ?_⟩, rfl⟩
      rw [en] at hr
      cases hr
    · rintro ⟨l, wd, rfl⟩
      rw [List.eq_nil_of_length_eq_zero (wd_len 0 ok hT wd)]
      exact List.mem_singleton.mpr rfl
  | T + 1, cs, ok, hT, s => by
    have sub : ∀ {r : Run}, r ∈ cs → (lenR (lessR cs r.1)).toNat = T := fun hr => by
      have := less_len ok hr
      omega
    constructor
    · intro h
      obtain ⟨r, hr, h⟩ := List.mem_flatMap.mp h
      obtain ⟨u, hu, rfl⟩ := List.mem_map.mp h
      obtain ⟨t, wd, rfl⟩ := (ends_mem T (less_ok ok r.1) (sub hr) u).mp hu
      exact ⟨t ++ [r.1], (wd_snoc ok hr).mpr wd, stI_snocP t r.1 none⟩
    · rintro ⟨l, wd, rfl⟩
      have hl := wd_len (T + 1) ok hT wd
      rcases List.eq_nil_or_concat l with z | ⟨t, k, z⟩
      · rw [z] at hl
        cases hl
      · rw [List.concat_eq_append] at z
        subst z
        obtain ⟨r, hr, ek⟩ := List.mem_map.mp (wd.kin k (List.mem_append_right _ (List.mem_singleton.mpr rfl)))
        have ek : r.1 = k := ek
        subst ek
        refine List.mem_flatMap.mpr ⟨r, hr, List.mem_map.mpr ⟨stI t none, ?_, (stI_snocP t r.1 none).symm⟩⟩
        exact (ends_mem T (less_ok ok r.1) (sub hr) _).mpr ⟨t, (wd_snoc ok hr).mp wd, rfl⟩
theorem ends_can {cs : List Run} (ok : Okc cs) (s : Option Run) : s ∈ endsR cs ↔ PosO s ∧ CanR cs s := by
  have l0 := lenR_nnX ok
  unfold endsR
  rw [ends_mem _ ok rfl]
  have rc : Rc cs (lenR cs).toNat (zerosL cs, s) ↔ PosO s ∧ CanR cs s := (rc_end ok.pos ok.asc).trans ⟨fun h => h.2, fun h => ⟨rfl, h⟩⟩
  rw [← rc]
  constructor
  · rintro ⟨l, wd, rfl⟩
    refine ⟨l, wd_len _ ok rfl wd, ⟨wd.kin, fun r hr => Int.le_of_eq (wd.cnt r hr)⟩, Prod.ext ?_ rfl⟩
    exact List.map_congr_left fun r hr => by
      have := wd.cnt r hr
      omega
  · rintro ⟨l, _, ⟨h1, _⟩, e⟩
    refine ⟨l, ⟨h1, fun r hr => ?_⟩, (congrArg Prod.snd e).symm⟩
    have e1 : zerosL cs = leftL cs l := congrArg Prod.fst e
    obtain ⟨i, hi⟩ := List.getElem?_of_mem hr
    have := congrArg (·[i]?) e1
    unfold zerosL leftL at this
    simp only [List.getElem?_map, hi, Option.map_some] at this
    have := Option.some.inj this
    omega
theorem ends_kind {cs : List Run} (ok : Okc cs) {r : Run} (h : some r ∈ endsR cs) : r.1 ∈ cs.map (·.1) := ((ends_can ok _).mp h).2.1 _ rfl
theorem ends_bound {cs : List Run} (ok : Okc cs) {r e : Run} (h : some r ∈ endsR cs) (he : e ∈ cs) (k : e.1 = r.1) : r.2 ≤ e.2 := by
  obtain ⟨_, _, h2, _, _⟩ := (ends_can ok _).mp h
  exact h2 e he (by show V.str r.1 = V.str e.1; rw [k])
end UP

set_option Elab.async false
set_option linter.all false
set_option maxRecDepth 100000
set_option maxHeartbeats 4000000
set_option pp.maxSteps 600
namespace UP
open PySem PySem.Spec PyProof.Rows L2
/-! ### what has come at a mark -/
def cntAt (cs : List Run) (m : Nat) : List Run := posR ((stepsM cs).map fun p => (p.1.1, ((digM p m : Nat) : Int)))
theorem steps_pair {cs : List Run} (asc : Asc cs) {f : Run × Nat → Int} : Asc ((stepsM cs).map fun p => (p.1.1, f p)) := by
  rw [asc_pairX] at asc ⊢
  rw [← stepsM_fst cs] at asc
  have h : (stepsM cs).Pairwise fun p q => p.1.1.cps.toList < q.1.1.cps.toList := by
    rw [List.pairwise_map] at asc
    exact asc
  exact List.pairwise_map.mpr h
theorem cnt_ok {cs : List Run} (ok : Okc cs) (m : Nat) : Okc (cntAt cs m) := ⟨posR_pos, asc_pos (steps_pair ok.asc)⟩
theorem cnt_zero (cs : List Run) : cntAt cs 0 = [] := by
  refine List.filter_eq_nil_iff.mpr fun r hr => ?_
  obtain ⟨p, _, rfl⟩ := List.mem_map.mp hr
  rw [dig_zero]
  show ¬ decide ((0 : Int) < ((0 : Nat) : Int)) = true
  decide
theorem cnt_last {cs : List Run} (ok : Okc cs) : cntAt cs (prodM cs - 1) = cs := by
  have e : ((stepsM cs).map fun p => (p.1.1, ((digM p (prodM cs - 1) : Nat) : Int))) = cs := by
    conv => rhs; rw [← stepsM_fst cs]
    refine List.map_congr_left fun p hp => ?_
    rw [dig_last hp]
    have hm : p.1 ∈ cs := by
      have : p.1 ∈ (stepsM cs).map (·.1) := List.mem_map.mpr ⟨p, hp, rfl⟩
      rwa [stepsM_fst] at this
    have := ok.pos _ hm
    exact Prod.ext rfl (by show ((p.1.2.toNat : Nat) : Int) = p.1.2; omega)
  unfold cntAt
  rw [e]
  exact List.filter_eq_self.mpr fun r hr => by
    have h0 := ok.pos r hr
    exact decide_eq_true (show 0 < r.2 by omega)
theorem pos_dec (k : Str) : ∀ l : List Run, (∀ r ∈ l, 0 ≤ r.2) → posR ((posR l).map (decR k)) = posR (l.map (decR k))
  | [], _ => rfl
  | r :: t, h => by
    have ih := pos_dec k t fun x hx => h x (List.mem_cons_of_mem _ hx)
    unfold posR at ih ⊢
    by_cases c : 0 < r.2
    · rw [List.filter_cons_of_pos (by simpa using c), List.map_cons, List.map_cons]
      by_cases c2 : 0 < (decR k r).2
      · rw [List.filter_cons_of_pos (by simpa using c2), List.filter_cons_of_pos (by simpa using c2), ih]
      · rw [List.filter_cons_of_neg (by simpa using c2), List.filter_cons_of_neg (by simpa using c2), ih]
    · have h0 := h r (List.mem_cons_self ..)
      have c2 : ¬ 0 < (decR k r).2 := by
        show ¬ 0 < r.2 - ite _ _ _
        split <;> omega
      rw [List.filter_cons_of_neg (by simpa using c), List.map_cons, List.filter_cons_of_neg (by simpa using c2), ih]
theorem cnt_less {cs : List Run} (ok : Okc cs) {i j : Nat} {p : Run × Nat} (hp : (stepsM cs)[i]? = some p) (hj : j < prodM cs) (hd : 0 < digM p j) : lessR (cntAt cs j) p.1.1 = cntAt cs (j - p.2) := by
  obtain ⟨b, e⟩ := dig_down hp hj hd
  obtain ⟨_, u1, u2⟩ := dig_up hp (Nat.lt_of_le_of_lt (Nat.sub_le j p.2) hj) e
  rw [Nat.sub_add_cancel b] at u1 u2
  unfold lessR cntAt
  rw [pos_dec _ _ fun r hr => by
    obtain ⟨q, _, rfl⟩ := List.mem_map.mp hr
    exact Int.natCast_nonneg _, List.map_map]
  congr 1
  refine List.map_congr_left fun q hq => ?_
  obtain ⟨i', hi'⟩ := List.getElem?_of_mem hq
  refine Prod.ext rfl ?_
  show ((digM q j : Nat) : Int) - (if q.1.1 = p.1.1 then 1 else 0) = ((digM q (j - p.2) : Nat) : Int)
  by_cases c : i' = i
  · subst c
    rw [hp] at hi'
    obtain rfl := Option.some.inj hi'
    rw [if_pos rfl]
    omega
  · rw [if_neg (asc_ne ok.asc c (stepsM_at hi') (stepsM_at hp)), u2 i' q hi' c]
    omega
/-- how many orders lead to a state -/
def numE (cs : List Run) (s : Option Run) : Nat := (endsR cs).count s
def pushN (cs : List Run) (k : Str) (x : Option Run) : Nat := (endsR cs).countP fun s => decide (stepR s k 1 = x)
theorem count_map {α β : Type} [BEq β] [LawfulBEq β] [DecidableEq β] (f : α → β) (x : β) : ∀ l : List α, (l.map f).count x = l.countP fun s => decide (f s = x)
  | [] => rfl
  | a :: t => by
    rw [List.map_cons, List.count_cons, List.countP_cons, count_map f x t]
    by_cases c : f a = x
    · rw [if_pos (by simpa using c), if_pos (by simpa using c)]
    · rw [if_neg (by simpa using c), if_neg (by simpa using c)]
theorem count_flat {α β : Type} [BEq β] (f : α → List β) (x : β) : ∀ l : List α, (l.flatMap f).count x = (l.map fun a => (f a).count x).sum
  | [] => rfl
  | a :: t => by rw [List.flatMap_cons, List.count_append, count_flat f x t, List.map_cons, List.sum_cons]
theorem num_step {cs : List Run} (ok : Okc cs) (n : cs ≠ []) (x : Option Run) : numE cs x = (cs.map fun r => pushN (lessR cs r.1) r.1 x).sum := by
  unfold numE
  rw [ends_step ok n, count_flat]
  congr 1
  exact List.map_congr_left fun r _ => count_map ..
theorem sum_pos : ∀ {l : List Run} {f : Run → Nat}, ((posR l).map f).sum = (l.map fun r => if 0 < r.2 then f r else 0).sum
  | [], _ => rfl
  | r :: t, f => by
    have ih := sum_pos (l := t) (f := f)
    unfold posR at ih ⊢
    rw [List.map_cons, List.sum_cons]
    by_cases c : 0 < r.2
    · rw [List.filter_cons_of_pos (by simpa using c), List.map_cons, List.sum_cons, ih, if_pos c]
    · rw [List.filter_cons_of_neg (by simpa using c), ih, if_neg c, Nat.zero_add]
theorem num_at {cs : List Run} (ok : Okc cs) {j : Nat} (hj : j < prodM cs) (j0 : 0 < j) (x : Option Run) :
    numE (cntAt cs j) x = ((stepsM cs).map fun p => if 0 < digM p j then pushN (cntAt cs (j - p.2)) p.1.1 x else 0).sum := by
  have nn : cntAt cs j ≠ [] := fun z => by
    have h := dig_none hj fun p hp => Classical.byContradiction fun n => by
      have : ((p.1.1, ((digM p j : Nat) : Int)) : Run) ∈ cntAt cs j := posR_mem.mpr ⟨List.mem_map.mpr ⟨p, hp, rfl⟩, by show (0 : Int) < ((digM p j : Nat) : Int); omega⟩
      rw [z] at this
      cases this
    omega
  rw [num_step (cnt_ok ok j) nn]
  conv => lhs; arg 1; arg 2; unfold cntAt
  rw [sum_pos, List.map_map]
  congr 1
  refine List.map_congr_left fun p hp => ?_
  obtain ⟨i, hi⟩ := List.getElem?_of_mem hp
  show (if (0 : Int) < ((digM p j : Nat) : Int) then _ else _) = _
  by_cases c : 0 < digM p j
  · rw [if_pos c, if_pos (by omega)]
    show pushN (lessR (cntAt cs j) p.1.1) p.1.1 x = _
    rw [cnt_less ok hi hj c]
  · rw [if_neg c, if_neg (by omega)]
end UP

set_option Elab.async false
set_option linter.all false
set_option maxRecDepth 100000
set_option maxHeartbeats 4000000
set_option pp.maxSteps 600
namespace UP
open PySem PySem.Spec PyProof.Rows L2
/-! ### the dicts of the marks: states with the numbers of orders -/
abbrev DFn := List (Option Run × Nat)
def addF : DFn → Option Run → Nat → DFn
  | [], s, n => [(s, n)]
  | p :: t, s, n => if p.1 = s then (p.1, p.2 + n) :: t else p :: addF t s n
def getF : DFn → Option Run → Nat
  | [], _ => 0
  | p :: t, s => if p.1 = s then p.2 else getF t s
theorem get_add : ∀ (f : DFn) (s x : Option Run) (n : Nat), getF (addF f s n) x = getF f x + if s = x then n else 0
  | [], s, x, n => by
    show (if s = x then n else 0) = 0 + _
    rw [Nat.zero_add]
  | p :: t, s, x, n => by
    unfold addF
    by_cases c : p.1 = s
    · rw [if_pos c]
      show (if p.1 = x then p.2 + n else getF t x) = (if p.1 = x then p.2 else getF t x) + _
      by_cases d : p.1 = x
      · rw [if_pos d, if_pos d, if_pos (c ▸ d)]
      · rw [if_neg d, if_neg d, if_neg (c ▸ d), Nat.add_zero]
    · rw [if_neg c]
      show (if p.1 = x then p.2 else getF (addF t s n) x) = (if p.1 = x then p.2 else getF t x) + _
      by_cases d : p.1 = x
      · rw [if_pos d, if_pos d, if_neg (fun z => c (d.trans z.symm)), Nat.add_zero]
      · rw [if_neg d, if_neg d, get_add t s x n]
theorem add_keys : ∀ (f : DFn) (s : Option Run) (n : Nat), (addF f s n).map (·.1) = if s ∈ f.map (·.1) then f.map (·.1) else f.map (·.1) ++ [s]
  | [], s, n => rfl
  | p :: t, s, n => by
    unfold addF
    by_cases c : p.1 = s
    · rw [if_pos c, if_pos (by rw [← c]; exact List.mem_cons_self ..)]
      rfl
    · rw [if_neg c, List.map_cons, add_keys t s n, List.map_cons]
      by_cases d : s ∈ t.map (·.1)
      · rw [if_pos d, if_pos (List.mem_cons_of_mem _ d)]
      · rw [if_neg d, if_neg (fun z => (List.mem_cons.mp z).elim (fun e => c e.symm) d)]
        rfl
theorem get_none : ∀ {f : DFn} {s : Option Run}, s ∉ f.map (·.1) → getF f s = 0
  | [], _, _ => rfl
  | p :: t, s, h => by
    show (if p.1 = s then p.2 else getF t s) = 0
    rw [if_neg (fun z => h (by rw [← z]; exact List.mem_cons_self ..)), get_none fun z => h (List.mem_cons_of_mem _ z)]
def pushF (f : DFn) (k : Str) (x : Option Run) : Nat := (f.map fun p => if stepR p.1 k 1 = x then p.2 else 0).sum
theorem countP_split {α : Type} [BEq α] [LawfulBEq α] [DecidableEq α] (P : α → Bool) (s : α) : ∀ L : List α, L.countP P = (L.filter fun y => decide (y ≠ s)).countP P + if P s = true then L.count s else 0
  | [] => by simp
  | a :: t => by
    rw [List.countP_cons, countP_split P s t, List.count_cons]
    by_cases c : a = s
    · subst c
      rw [List.filter_cons_of_neg (by simp)]
      by_cases d : P a = true
      · rw [if_pos d, if_pos d, if_pos d]
        simp
        omega
      · rw [if_neg d, if_neg d, if_neg d]
    · rw [List.filter_cons_of_pos (by simpa using c), List.countP_cons]
      rw [if_neg (show ¬ (a == s) = true by simpa using c), Nat.add_zero]
      omega
theorem push_count : ∀ {f : DFn} {L : List (Option Run)} (k : Str) (x : Option Run), (f.map (·.1)).Nodup → (∀ y, getF f y = L.count y) → pushF f k x = L.countP fun s => decide (stepR s k 1 = x)
  | [], L, k, x, _, h => by
    have : L = [] := by
      cases L with
      | nil => rfl
      | cons a t =>
        have := h a
        rw [List.count_cons_self] at this
        cases this
    rw [this]
    rfl
  | p :: t, L, k, x, nd, h => by
    obtain ⟨n1, n2⟩ := List.nodup_cons.mp (show (p.1 :: t.map (·.1)).Nodup from nd)
    have ih := push_count (f := t) (L := L.filter fun y => decide (y ≠ p.1)) k x n2 fun y => by
      by_cases c : y = p.1
      · rw [c, get_none n1]
        exact (List.count_eq_zero_of_not_mem fun z => by simpa using (List.mem_filter.mp z).2).symm
      · rw [List.count_filter (by simpa using c), ← h y]
        show _ = if p.1 = y then p.2 else getF t y
        rw [if_neg (fun z => c z.symm)]
    rw [countP_split _ p.1, ← ih]
    have hp := h p.1
    have hp : (if p.1 = p.1 then p.2 else getF t p.1) = L.count p.1 := hp
    rw [if_pos rfl] at hp
    show (if stepR p.1 k 1 = x then p.2 else 0) + pushF t k x = _
    by_cases c : stepR p.1 k 1 = x
    · simp only [c, decide_true, if_true]
      omega
    · simp only [c, decide_false, if_false, Bool.false_eq_true, Nat.zero_add, Nat.add_zero]
/-! ### the walk over the marks -/
def valF (F : List DFn) (j : Nat) (x : Option Run) : Nat := getF ((F[j]?).getD []) x
def putF (F : List DFn) (a : Nat) (s : Option Run) (n : Nat) : List DFn := F.modify a fun f => addF f s n
def innF (k : Str) (a : Nat) (rs : DFn) (F : List DFn) : List DFn := rs.foldl (fun F p => putF F a (stepR p.1 k 1) p.2) F
def outF (rs : DFn) (F : List DFn) (arr : List (Str × Nat)) : List DFn := arr.foldl (fun F a => innF a.1 a.2 rs F) F
def arrM (cs : List Run) (m : Nat) : List (Str × Nat) := ((stepsM cs).filter fun p => decide (digM p m < p.1.2.toNat)).map fun p => (p.1.1, m + p.2)
def mainF (cs : List Run) : Nat → List DFn
  | 0 => putF (List.replicate (prodM cs) []) 0 none 1
  | m + 1 => outF (((mainF cs m)[m]?).getD []) (mainF cs m) (arrM cs m)
/-- every dict's keys are different, and are states that so many items can lead to -/
structure BoxF (ks : List Str) (P : Nat) (F : List DFn) : Prop where
  len : F.length = P
  once : ∀ (j : Nat) (f : DFn), F[j]? = some f → (f.map (·.1)).Nodup
  box : ∀ (j : Nat) (f : DFn), F[j]? = some f → ∀ p ∈ f, ∀ r, p.1 = some r → r.1 ∈ ks ∧ 1 ≤ r.2 ∧ r.2 ≤ (j : Int)
theorem put_at (F : List DFn) (a j : Nat) (s : Option Run) (n : Nat) : (putF F a s n)[j]? = if a = j then (F[j]?).map (fun f => addF f s n) else F[j]? := by
  unfold putF
  rw [List.getElem?_modify]
  by_cases c : a = j
  · rw [if_pos c]
    cases F[j]? with
    | none => rfl
    | some f => simp [c]
  · rw [if_neg c]
    cases F[j]? with
    | none => rfl
    | some f => simp [c]
theorem put_val {F : List DFn} {a : Nat} (h : a < F.length) (j : Nat) (s x : Option Run) (n : Nat) : valF (putF F a s n) j x = valF F j x + if a = j ∧ s = x then n else 0 := by
  unfold valF
  rw [put_at]
  by_cases c : a = j
  · subst c
    rw [if_pos rfl, List.getElem?_eq_getElem h]
    show getF (addF F[a] s n) x = getF F[a] x + _
    rw [get_add]
    congr 1
    by_cases d : s = x
    · rw [if_pos d, if_pos ⟨rfl, d⟩]
    · rw [if_neg d, if_neg (fun z => d z.2)]
  · rw [if_neg c, if_neg (fun z => c z.1), Nat.add_zero]
theorem BoxF.put {ks : List Str} {P : Nat} {F : List DFn} (b : BoxF ks P F) {a : Nat} {s : Option Run} {n : Nat} (h : ∀ r, s = some r → r.1 ∈ ks ∧ 1 ≤ r.2 ∧ r.2 ≤ (a : Int)) : BoxF ks P (putF F a s n) := by
  have mk : ∀ (f : DFn) (p : Option Run × Nat), p ∈ addF f s n → p.1 = s ∨ ∃ q ∈ f, q.1 = p.1 := fun f p hp => by
    have h1 : p.1 ∈ (addF f s n).map (·.1) := List.mem_map.mpr ⟨p, hp, rfl⟩
    rw [add_keys] at h1
    have h2 : p.1 ∈ f.map (·.1) ∨ p.1 = s := by
      split at h1
      · exact .inl h1
      · rcases List.mem_append.mp h1 with z | z
        · exact .inl z
        · exact .inr (List.mem_singleton.mp z)
    rcases h2 with z | z
    · obtain ⟨q, hq, e⟩ := List.mem_map.mp z
      exact .inr ⟨q, hq, e⟩
    · exact .inl z
  refine ⟨by unfold putF; rw [List.length_modify]; exact b.len, fun j f hf => ?_, fun j f hf p hp r hr => ?_⟩
  · rw [put_at] at hf
    by_cases c : a = j
    · rw [if_pos c] at hf
      cases e : F[j]? with
      | none => rw [e] at hf; cases hf
      | some g =>
        rw [e] at hf
        obtain rfl : addF g s n = f := Option.some.inj hf
        rw [add_keys]
        have og := b.once j g e
        split
        · exact og
        · next nm =>
          refine List.nodup_append.mpr ⟨og, List.nodup_cons.mpr ⟨List.not_mem_nil, List.nodup_nil⟩, fun x hx y hy => ?_⟩
          rw [List.mem_singleton.mp hy]
          exact fun z => nm (z ▸ hx)
    · rw [if_neg c] at hf
      exact b.once j f hf
  · rw [put_at] at hf
    by_cases c : a = j
    · rw [if_pos c] at hf
      cases e : F[j]? with
      | none => rw [e] at hf; cases hf
      | some g =>
        rw [e] at hf
        obtain rfl : addF g s n = f := Option.some.inj hf
        rcases mk g p hp with z | ⟨q, hq, eq⟩
        · rw [← c]
          exact h r (z.symm.trans hr)
        · exact b.box j g e q hq r (eq.trans hr)
    · rw [if_neg c] at hf
      exact b.box j f hf p hp r hr
theorem inn_val {k : Str} {a : Nat} : ∀ (rs : DFn) {F : List DFn}, a < F.length → ∀ j x, valF (innF k a rs F) j x = valF F j x + if a = j then pushF rs k x else 0
  | [], F, h, j, x => by
    show valF F j x = _ + ite _ 0 0
    rw [ite_self, Nat.add_zero]
  | p :: t, F, h, j, x => by
    show valF (innF k a t (putF F a (stepR p.1 k 1) p.2)) j x = _
    rw [inn_val t (by unfold putF; rw [List.length_modify]; exact h) j x, put_val h, Nat.add_assoc]
    congr 1
    show _ = if a = j then (if stepR p.1 k 1 = x then p.2 else 0) + pushF t k x else 0
    by_cases c : a = j
    · rw [if_pos c, if_pos c]
      by_cases d : stepR p.1 k 1 = x
      · rw [if_pos ⟨c, d⟩, if_pos d]
      · rw [if_neg (fun z => d z.2), if_neg d]
    · rw [if_neg c, if_neg c, if_neg (fun z => c z.1)]
theorem step_box {ks : List Str} {s : Option Run} {k : Str} {m a : Nat} (hk : k ∈ ks) (lt : m < a) (h : ∀ r, s = some r → r.1 ∈ ks ∧ 1 ≤ r.2 ∧ r.2 ≤ (m : Int)) : ∀ r, stepR s k 1 = some r → r.1 ∈ ks ∧ 1 ≤ r.2 ∧ r.2 ≤ (a : Int) := by
  intro r hr
  cases s with
  | none =>
    obtain rfl : (k, (1 : Int)) = r := Option.some.inj hr
    exact ⟨hk, Int.le_refl _, by show (1 : Int) ≤ a; omega⟩
  | some q =>
    obtain ⟨h1, h2, h3⟩ := h q rfl
    by_cases c : q.1 = k
    · have e : stepR (some q) k 1 = some (k, q.2 + 1) := by
        unfold stepR
        simp only [c, if_true]
      rw [e] at hr
      obtain rfl := Option.some.inj hr
      exact ⟨hk, by show 1 ≤ q.2 + 1; omega, by show q.2 + 1 ≤ (a : Int); omega⟩
    · rw [step_other (r := q) c] at hr
      by_cases d : 1 < q.2
      · have e : r = (q.1, q.2 - 1) := by
          split at hr
          · cases hr; rfl
          · split at hr
            · omega
            · omega
        rw [e]
        exact ⟨h1, by show 1 ≤ q.2 - 1; omega, by show q.2 - 1 ≤ (a : Int); omega⟩
      · exfalso
        have : q.2 = 1 := by omega
        rw [this] at hr
        simp at hr
theorem BoxF.inn {ks : List Str} {P : Nat} {k : Str} {m a : Nat} (hk : k ∈ ks) (lt : m < a) : ∀ (rs : DFn) {F : List DFn}, (∀ p ∈ rs, ∀ r, p.1 = some r → r.1 ∈ ks ∧ 1 ≤ r.2 ∧ r.2 ≤ (m : Int)) → BoxF ks P F → BoxF ks P (innF k a rs F)
  | [], F, _, b => b
  | p :: t, F, h, b => BoxF.inn hk lt t (fun q hq => h q (List.mem_cons_of_mem _ hq)) (b.put (step_box hk lt (h p (List.mem_cons_self ..))))
end UP

set_option Elab.async false
set_option linter.all false
set_option maxRecDepth 100000
set_option maxHeartbeats 4000000
set_option pp.maxSteps 600
namespace UP
open PySem PySem.Spec PyProof.Rows L2
theorem inn_len {k : Str} {a : Nat} : ∀ (rs : DFn) {F : List DFn}, (innF k a rs F).length = F.length
  | [], F => rfl
  | p :: t, F => by
    show (innF k a t (putF F a (stepR p.1 k 1) p.2)).length = _
    rw [inn_len t]
    unfold putF
    rw [List.length_modify]
theorem out_len {rs : DFn} : ∀ (arr : List (Str × Nat)) {F : List DFn}, (outF rs F arr).length = F.length
  | [], F => rfl
  | a :: t, F => by
    show (outF rs (innF a.1 a.2 rs F) t).length = _
    rw [out_len t, inn_len]
theorem out_val {rs : DFn} : ∀ (arr : List (Str × Nat)) {F : List DFn}, (∀ a ∈ arr, a.2 < F.length) → ∀ j x, valF (outF rs F arr) j x = valF F j x + (arr.map fun a => if a.2 = j then pushF rs a.1 x else 0).sum
  | [], F, _, j, x => rfl
  | a :: t, F, h, j, x => by
    show valF (outF rs (innF a.1 a.2 rs F) t) j x = _
    rw [out_val t (fun b hb => by rw [inn_len]; exact h b (List.mem_cons_of_mem _ hb)) j x, inn_val rs (h a (List.mem_cons_self ..)), Nat.add_assoc, List.map_cons, List.sum_cons]
theorem BoxF.out {ks : List Str} {P : Nat} {m : Nat} {rs : DFn} (hr : ∀ p ∈ rs, ∀ r, p.1 = some r → r.1 ∈ ks ∧ 1 ≤ r.2 ∧ r.2 ≤ (m : Int)) : ∀ (arr : List (Str × Nat)) {F : List DFn}, (∀ a ∈ arr, a.1 ∈ ks ∧ m < a.2) → BoxF ks P F → BoxF ks P (outF rs F arr)
  | [], F, _, b => b
  | a :: t, F, h, b => BoxF.out hr t (fun c hc => h c (List.mem_cons_of_mem _ hc)) (b.inn (h a (List.mem_cons_self ..)).1 (h a (List.mem_cons_self ..)).2 rs hr)
theorem arr_mem {cs : List Run} {m : Nat} (hm : m < prodM cs) {a : Str × Nat} (h : a ∈ arrM cs m) : a.1 ∈ cs.map (·.1) ∧ m < a.2 ∧ a.2 < prodM cs := by
  obtain ⟨p, hp, rfl⟩ := List.mem_map.mp h
  obtain ⟨hp, hd⟩ := List.mem_filter.mp hp
  obtain ⟨i, hi⟩ := List.getElem?_of_mem hp
  have p0 := stepsM_pos hp
  refine ⟨List.mem_map.mpr ⟨p.1, List.mem_of_getElem? (stepsM_at hi), rfl⟩, by show m < m + p.2; omega, (dig_up hi hm (of_decide_eq_true hd)).1⟩
theorem main_box (cs : List Run) : ∀ m, m ≤ prodM cs → BoxF (cs.map (·.1)) (prodM cs) (mainF cs m)
  | 0, _ => by
    have b0 : BoxF (cs.map (·.1)) (prodM cs) (List.replicate (prodM cs) []) := ⟨List.length_replicate, fun j f h => by
      rw [(List.mem_replicate.mp (List.mem_of_getElem? h)).2]
      exact List.nodup_nil, fun j f h p hp => by
      rw [(List.mem_replicate.mp (List.mem_of_getElem? h)).2] at hp
      cases hp⟩
    exact b0.put fun r h => by cases h
  | m + 1, h => by
    have b := main_box cs m (Nat.le_of_succ_le h)
    refine BoxF.out (m := m) (fun p hp => ?_) _ (fun a ha => ⟨(arr_mem h ha).1, (arr_mem h ha).2.1⟩) b
    cases e : (mainF cs m)[m]? with
    | none =>
      rw [e] at hp
      cases hp
    | some f =>
      rw [e] at hp
      exact b.box m f e p hp
theorem sum_filter {α : Type} (P : α → Bool) (f : α → Nat) : ∀ l : List α, ((l.filter P).map f).sum = (l.map fun a => if P a = true then f a else 0).sum
  | [] => rfl
  | a :: t => by
    rw [List.map_cons, List.sum_cons, ← sum_filter P f t]
    by_cases c : P a = true
    · rw [List.filter_cons_of_pos c, List.map_cons, List.sum_cons, if_pos c]
    · rw [List.filter_cons_of_neg c, if_neg c, Nat.zero_add]
theorem sum_add {α : Type} (f g : α → Nat) : ∀ l : List α, (l.map f).sum + (l.map g).sum = (l.map fun a => f a + g a).sum
  | [] => rfl
  | a :: t => by
    rw [List.map_cons, List.map_cons, List.map_cons, List.sum_cons, List.sum_cons, List.sum_cons, ← sum_add f g t]
    omega
theorem sum_zeroN {α : Type} {f : α → Nat} : ∀ {l : List α}, (∀ a ∈ l, f a = 0) → (l.map f).sum = 0
  | [], _ => rfl
  | a :: t, h => by rw [List.map_cons, List.sum_cons, h a (List.mem_cons_self ..), sum_zeroN fun b hb => h b (List.mem_cons_of_mem _ hb)]
theorem val_first {cs : List Run} (j : Nat) (hj : j < prodM cs) (x : Option Run) : valF (mainF cs 0) j x = if j = 0 ∧ x = none then 1 else 0 := by
  show valF (putF (List.replicate (prodM cs) []) 0 none 1) j x = _
  rw [put_val (by rw [List.length_replicate]; exact prodM_pos cs)]
  have : valF (List.replicate (prodM cs) []) j x = 0 := by
    unfold valF
    rw [List.getElem?_replicate, if_pos hj]
    rfl
  rw [this, Nat.zero_add]
  by_cases c : j = 0
  · subst c
    by_cases d : x = none
    · rw [if_pos ⟨rfl, d.symm⟩, if_pos ⟨rfl, d⟩]
    · rw [if_neg (fun z => d z.2.symm), if_neg (fun z => d z.2)]
  · rw [if_neg (fun z => c z.1.symm), if_neg (fun z => c z.1)]
def goneN (cs : List Run) (m j : Nat) (x : Option Run) : Nat := ((stepsM cs).map fun p => if 0 < digM p j ∧ j - p.2 < m then pushN (cntAt cs (j - p.2)) p.1.1 x else 0).sum
theorem gone_all {cs : List Run} (ok : Okc cs) {m j : Nat} (hj : j < prodM cs) (le : j ≤ m) (x : Option Run) : (if j = 0 ∧ x = none then 1 else 0) + goneN cs m j x = numE (cntAt cs j) x := by
  by_cases j0 : j = 0
  · subst j0
    have e : goneN cs m 0 x = 0 := by
      unfold goneN
      refine sum_zeroN fun p _ => ?_
      rw [if_neg (fun z => by rw [dig_zero] at z; exact absurd z.1 (Nat.lt_irrefl _))]
    rw [e, cnt_zero]
    show _ = List.count x [none]
    by_cases d : x = none
    · rw [if_pos ⟨rfl, d⟩, d]
      rfl
    · rw [if_neg (fun z => d z.2), List.count_eq_zero_of_not_mem fun z => d (List.mem_singleton.mp z)]
  · rw [if_neg (fun z => j0 z.1), Nat.zero_add, num_at ok hj (by omega)]
    unfold goneN
    congr 1
    refine List.map_congr_left fun p hp => ?_
    obtain ⟨i, hi⟩ := List.getElem?_of_mem hp
    have p0 := stepsM_pos hp
    by_cases c : 0 < digM p j
    · rw [if_pos ⟨c, by omega⟩, if_pos c]
    · rw [if_neg (fun z => c z.1), if_neg c]
theorem main_val {cs : List Run} (ok : Okc cs) : ∀ m, m ≤ prodM cs → ∀ j, j < prodM cs → ∀ x, valF (mainF cs m) j x = (if j = 0 ∧ x = none then 1 else 0) + goneN cs m j x
  | 0, _, j, hj, x => by
    rw [val_first j hj]
    have e : goneN cs 0 j x = 0 := by
      unfold goneN
      refine sum_zeroN fun p _ => ?_
      rw [if_neg (fun z => Nat.not_lt_zero _ z.2)]
    rw [e, Nat.add_zero]
  | m + 1, h, j, hj, x => by
    have b := main_box cs m (Nat.le_of_succ_le h)
    have hm : m < prodM cs := h
    have lm : m < (mainF cs m).length := by rw [b.len]; exact hm
    have ih := main_val ok m (Nat.le_of_succ_le h)
    show valF (outF (((mainF cs m)[m]?).getD []) (mainF cs m) (arrM cs m)) j x = _
    rw [out_val (arrM cs m) (fun a ha => by rw [b.len]; exact (arr_mem hm ha).2.2), ih j hj x, Nat.add_assoc]
    congr 1
    have hp : ∀ (k : Str) (y : Option Run), pushF (((mainF cs m)[m]?).getD []) k y = pushN (cntAt cs m) k y := fun k y => by
      refine push_count k y ?_ fun z => ?_
      · rw [List.getElem?_eq_getElem lm]
        exact b.once m _ (List.getElem?_eq_getElem lm)
      · have := ih m hm z
        rw [gone_all ok hm (Nat.le_refl _)] at this
        exact this
    unfold arrM
    rw [List.map_map, sum_filter]
    unfold goneN
    rw [sum_add]
    congr 1
    refine List.map_congr_left fun p hp' => ?_
    obtain ⟨i, hi⟩ := List.getElem?_of_mem hp'
    have p0 := stepsM_pos hp'
    show _ + (if decide (digM p m < p.1.2.toNat) = true then (if m + p.2 = j then pushF _ p.1.1 x else 0) else 0) = _
    rw [hp]
    by_cases c : 0 < digM p j
    · obtain ⟨d1, d2⟩ := dig_down hi hj c
      by_cases e : j - p.2 = m
      · have e1 : m + p.2 = j := by omega
        rw [e] at d2
        rw [if_neg (fun z => by omega), if_pos (decide_eq_true d2), if_pos e1, if_pos ⟨c, by omega⟩, e, Nat.zero_add]
      · have e1 : ¬ m + p.2 = j := by omega
        rw [if_neg e1, ite_self, Nat.add_zero]
        by_cases l : j - p.2 < m
        · rw [if_pos ⟨c, l⟩, if_pos ⟨c, by omega⟩]
        · rw [if_neg (fun z => l z.2), if_neg (fun z => by omega)]
    · rw [if_neg (show ¬ (0 < digM p j ∧ j - p.2 < m) from fun z => c z.1), if_neg (show ¬ (0 < digM p j ∧ j - p.2 < m + 1) from fun z => c z.1), Nat.zero_add]
      by_cases d : digM p m < p.1.2.toNat
      · rw [if_pos (decide_eq_true d)]
        by_cases e : m + p.2 = j
        · have := (dig_up hi hm d).2.1
          rw [e] at this
          omega
        · rw [if_neg e]
      · rw [if_neg (fun z => d (of_decide_eq_true z))]
/-- the dicts in the end -/
theorem main_num {cs : List Run} (ok : Okc cs) {j : Nat} (hj : j < prodM cs) (x : Option Run) : valF (mainF cs (prodM cs)) j x = numE (cntAt cs j) x := by
  rw [main_val ok _ (Nat.le_refl _) j hj, gone_all ok hj (Nat.le_of_lt hj)]
theorem last_num {cs : List Run} (ok : Okc cs) (x : Option Run) : valF (mainF cs (prodM cs)) (prodM cs - 1) x = numE cs x := by
  have := prodM_pos cs
  rw [main_num ok (by omega), cnt_last ok]
def boxL (ks : List Str) (j : Nat) : List (Option Run) := none :: ks.flatMap fun k => (List.range j).map fun n : Nat => some (k, (n : Int) + 1)
theorem boxL_len (ks : List Str) (j : Nat) : (boxL ks j).length = ks.length * j + 1 := by
  unfold boxL
  rw [List.length_cons]
  congr 1
  induction ks with
  | nil => simp
  | cons k t ih => rw [List.flatMap_cons, List.length_append, ih, List.length_map, List.length_range, List.length_cons, Nat.add_mul, Nat.one_mul, Nat.add_comm]
theorem BoxF.few {ks : List Str} {P : Nat} {F : List DFn} (b : BoxF ks P F) (hk : ks.length ≤ 12) (hP : P ≤ 3000) {j : Nat} {f : DFn} (h : F[j]? = some f) : f.length ≤ 36001 := by
  have hj : j < P := by
    rw [← b.len]
    exact (List.getElem?_eq_some_iff.mp h).1
  have h1 := nodup_subK (f.map (·.1)) (boxL ks j) (b.once j f h) fun x hx => by
    obtain ⟨p, hp, rfl⟩ := List.mem_map.mp hx
    cases e : p.1 with
    | none => exact List.mem_cons_self ..
    | some r =>
      obtain ⟨b1, b2, b3⟩ := b.box j f h p hp r e
      refine List.mem_cons_of_mem _ (List.mem_flatMap.mpr ⟨r.1, b1, List.mem_map.mpr ⟨(r.2 - 1).toNat, List.mem_range.mpr (by omega), ?_⟩⟩)
      have : (((r.2 - 1).toNat : Nat) : Int) + 1 = r.2 := by omega
      rw [this]
  rw [List.length_map, boxL_len] at h1
  have h2 : ks.length * j ≤ 12 * 3000 := Nat.mul_le_mul hk (by omega)
  omega
end UP

set_option Elab.async false
set_option linter.all false
set_option maxRecDepth 100000
set_option maxHeartbeats 4000000
set_option pp.maxSteps 600
namespace UP
open PySem PySem.Spec PyProof.Rows L2
/-! ### all orders, in ascending order -/
def sufL : Nat → List Run → List (List Str)
  | 0, _ => [[]]
  | T + 1, cs => cs.flatMap fun r => (sufL T (lessR cs r.1)).map (r.1 :: ·)
def sufR (cs : List Run) : List (List Str) := sufL (lenR cs).toNat cs
theorem flat_cong {α β : Type} {l : List α} {f g : α → List β} (h : ∀ x ∈ l, f x = g x) : l.flatMap f = l.flatMap g := by
  induction l with
  | nil => rfl
  | cons x t ih => rw [List.flatMap_cons, List.flatMap_cons, h x (List.mem_cons_self ..), ih fun y hy => h y (List.mem_cons_of_mem _ hy)]
theorem suf_step {cs : List Run} (ok : Okc cs) (n : cs ≠ []) : sufR cs = cs.flatMap fun r => (sufR (lessR cs r.1)).map (r.1 :: ·) := by
  obtain ⟨r, hr⟩ := List.exists_mem_of_ne_nil cs n
  have l1 := lenR_mem ok hr
  obtain ⟨T, hT⟩ : ∃ T : Nat, (lenR cs).toNat = T + 1 := ⟨(lenR cs).toNat - 1, by omega⟩
  unfold sufR
  rw [hT]
  refine flat_cong fun x hx => ?_
  have := less_len ok hx
  rw [show (lenR (lessR cs x.1)).toNat = T by omega]
/-! what is still to come at a mark -/
def leftAt (cs : List Run) (m : Nat) : List Run := posR ((stepsM cs).map fun p => (p.1.1, p.1.2 - ((digM p m : Nat) : Int)))
theorem left_nn {cs : List Run} (ok : Okc cs) (m : Nat) : ∀ r ∈ ((stepsM cs).map fun p => ((p.1.1, p.1.2 - ((digM p m : Nat) : Int)) : Run)), 0 ≤ r.2 := fun r hr => by
  obtain ⟨p, hp, rfl⟩ := List.mem_map.mp hr
  obtain ⟨i, hi⟩ := List.getElem?_of_mem hp
  have := ok.pos p.1 (List.mem_of_getElem? (stepsM_at hi))
  have := dig_le p m
  show 0 ≤ p.1.2 - _
  omega
theorem left_ok {cs : List Run} (ok : Okc cs) (m : Nat) : Okc (leftAt cs m) := ⟨posR_pos, asc_pos (steps_pair ok.asc)⟩
theorem left_zero {cs : List Run} (ok : Okc cs) : leftAt cs 0 = cs := by
  have e : ((stepsM cs).map fun p => ((p.1.1, p.1.2 - ((digM p 0 : Nat) : Int)) : Run)) = cs := by
    conv => rhs; rw [← stepsM_fst cs]
    exact List.map_congr_left fun p hp => by
      rw [dig_zero]
      exact Prod.ext rfl (by show p.1.2 - ((0 : Nat) : Int) = p.1.2; omega)
  unfold leftAt
  rw [e]
  exact List.filter_eq_self.mpr fun r hr => by
    have h0 := ok.pos r hr
    exact decide_eq_true (show 0 < r.2 by omega)
theorem left_last {cs : List Run} (ok : Okc cs) : leftAt cs (prodM cs - 1) = [] := by
  refine List.filter_eq_nil_iff.mpr fun r hr => ?_
  obtain ⟨p, hp, rfl⟩ := List.mem_map.mp hr
  obtain ⟨i, hi⟩ := List.getElem?_of_mem hp
  have := ok.pos p.1 (List.mem_of_getElem? (stepsM_at hi))
  rw [dig_last hp]
  show ¬ decide (0 < p.1.2 - ((p.1.2.toNat : Nat) : Int)) = true
  intro z
  have := of_decide_eq_true z
  omega
theorem left_less {cs : List Run} (ok : Okc cs) {i m : Nat} {p : Run × Nat} (hp : (stepsM cs)[i]? = some p) (hm : m < prodM cs) (hd : digM p m < p.1.2.toNat) : lessR (leftAt cs m) p.1.1 = leftAt cs (m + p.2) := by
  obtain ⟨_, u1, u2⟩ := dig_up hp hm hd
  unfold lessR leftAt
  rw [pos_dec _ _ (left_nn ok m), List.map_map]
  congr 1
  refine List.map_congr_left fun q hq => ?_
  obtain ⟨i', hi'⟩ := List.getElem?_of_mem hq
  refine Prod.ext rfl ?_
  show q.1.2 - ((digM q m : Nat) : Int) - (if q.1.1 = p.1.1 then 1 else 0) = q.1.2 - ((digM q (m + p.2) : Nat) : Int)
  by_cases c : i' = i
  · subst c
    rw [hp] at hi'
    obtain rfl := Option.some.inj hi'
    rw [if_pos rfl, u1]
    omega
  · rw [if_neg (asc_ne ok.asc c (stepsM_at hi') (stepsM_at hp)), u2 i' q hi' c]
    omega
theorem dig_same : ∀ {cs : List Run} {m n : Nat}, (∀ p ∈ stepsM cs, digM p m = digM p n) → m < prodM cs → n < prodM cs → m = n
  | [], m, n, _, h1, h2 => by
    have h1 : m < 1 := h1
    have h2 : n < 1 := h2
    omega
  | r :: t, m, n, h, h1, h2 => by
    have P0 := prodM_pos t
    have h0 := h _ (List.mem_cons_self ..)
    rw [dig_head h1, dig_head h2] at h0
    have ht := dig_same (cs := t) (m := m % prodM t) (n := n % prodM t) (fun p hp => by
      rw [dig_mod hp, dig_mod hp]
      exact h p (List.mem_cons_of_mem _ hp)) (Nat.mod_lt _ P0) (Nat.mod_lt _ P0)
    rw [← Nat.div_add_mod m (prodM t), ← Nat.div_add_mod n (prodM t), h0, ht]
theorem left_arr {cs : List Run} (ok : Okc cs) (m : Nat) : (leftAt cs m).map (·.1) = (arrM cs m).map (·.1) := by
  unfold leftAt arrM posR
  rw [List.filter_map, List.map_map, List.map_map]
  have e : (stepsM cs).filter ((fun r : Run => decide (0 < r.2)) ∘ fun p => (p.1.1, p.1.2 - ((digM p m : Nat) : Int))) = (stepsM cs).filter fun p => decide (digM p m < p.1.2.toNat) := by
    refine List.filter_congr fun p hp => ?_
    show decide (0 < p.1.2 - ((digM p m : Nat) : Int)) = decide (digM p m < p.1.2.toNat)
    exact decide_eq_decide.mpr (by omega)
  rw [e]
  rfl
theorem suf_at {cs : List Run} (ok : Okc cs) {m : Nat} (hm : m + 1 < prodM cs) : sufR (leftAt cs m) = (arrM cs m).flatMap fun a => (sufR (leftAt cs a.2)).map (a.1 :: ·) := by
  have nn : leftAt cs m ≠ [] := fun z => by
    have full : ∀ p ∈ stepsM cs, digM p m = digM p (prodM cs - 1) := fun p hp => by
      have h1 : ((p.1.1, p.1.2 - ((digM p m : Nat) : Int)) : Run) ∉ leftAt cs m := by rw [z]; exact List.not_mem_nil
      have h2 : ¬ 0 < p.1.2 - ((digM p m : Nat) : Int) := fun h => h1 (posR_mem.mpr ⟨List.mem_map.mpr ⟨p, hp, rfl⟩, h⟩)
      have h3 := dig_le p m
      rw [dig_last hp]
      omega
    exact absurd (dig_same full (by omega) (by omega)) (by omega)
  rw [suf_step (left_ok ok m) nn]
  have e : ∀ f : Str → List (List Str), (leftAt cs m).flatMap (fun r => f r.1) = (arrM cs m).flatMap fun a => f a.1 := fun f => by
    have h1 : (leftAt cs m).flatMap (fun r => f r.1) = ((leftAt cs m).map (·.1)).flatMap f := by rw [List.flatMap_map]
    have h2 : (arrM cs m).flatMap (fun a => f a.1) = ((arrM cs m).map (·.1)).flatMap f := by rw [List.flatMap_map]
    rw [h1, h2, left_arr ok]
  rw [e fun k => (sufR (lessR (leftAt cs m) k)).map (k :: ·)]
  refine flat_cong fun a ha => ?_
  obtain ⟨p, hp, rfl⟩ := List.mem_map.mp ha
  obtain ⟨hp, hd⟩ := List.mem_filter.mp hp
  obtain ⟨i, hi⟩ := List.getElem?_of_mem hp
  show (sufR (lessR (leftAt cs m) p.1.1)).map _ = (sufR (leftAt cs (m + p.2))).map _
  rw [left_less ok hi (by omega) (of_decide_eq_true hd)]
end UP

set_option Elab.async false
set_option linter.all false
set_option maxRecDepth 100000
set_option maxHeartbeats 4000000
set_option pp.maxSteps 600
namespace UP
open PySem PySem.Spec PyProof.Rows L2
/-! ### those that lead to a goal -/
def goL (cs : List Run) (m : Nat) (s g : Option Run) : List (List Str) := (sufR (leftAt cs m)).filter fun l => decide (stI l s = g)
def restN (cs : List Run) (m : Nat) (s g : Option Run) : Nat := (goL cs m s g).length
theorem filter_flat {α β : Type} (P : β → Bool) (f : α → List β) : ∀ l : List α, (l.flatMap f).filter P = l.flatMap fun a => (f a).filter P
  | [] => rfl
  | a :: t => by rw [List.flatMap_cons, List.filter_append, filter_flat P f t, List.flatMap_cons]
theorem go_step {cs : List Run} (ok : Okc cs) {m : Nat} (hm : m + 1 < prodM cs) (s g : Option Run) : goL cs m s g = (arrM cs m).flatMap fun a => (goL cs a.2 (stepR s a.1 1) g).map (a.1 :: ·) := by
  unfold goL
  rw [suf_at ok hm, filter_flat]
  refine flat_cong fun a _ => ?_
  rw [List.filter_map]
  rfl
theorem go_last {cs : List Run} (ok : Okc cs) (s g : Option Run) : goL cs (prodM cs - 1) s g = if s = g then [[]] else [] := by
  unfold goL
  rw [left_last ok]
  show List.filter _ [[]] = _
  by_cases c : s = g
  · rw [if_pos c]
    exact List.filter_eq_self.mpr fun l hl => by
      rw [List.mem_singleton.mp hl]
      exact decide_eq_true c
  · rw [if_neg c]
    exact List.filter_eq_nil_iff.mpr fun l hl z => by
      rw [List.mem_singleton.mp hl] at z
      exact c (of_decide_eq_true z)
theorem rest_step {cs : List Run} (ok : Okc cs) {m : Nat} (hm : m + 1 < prodM cs) (s g : Option Run) : restN cs m s g = ((arrM cs m).map fun a => restN cs a.2 (stepR s a.1 1) g).sum := by
  have fl : ∀ (l : List (Str × Nat)) (f : Str × Nat → List (List Str)), (l.flatMap f).length = (l.map fun a => (f a).length).sum := by
    intro l f
    induction l with
    | nil => rfl
    | cons a t ih => rw [List.flatMap_cons, List.length_append, ih, List.map_cons, List.sum_cons]
  unfold restN
  rw [go_step ok hm, fl]
  congr 1
  exact List.map_congr_left fun a _ => by rw [List.length_map]
theorem rest_last {cs : List Run} (ok : Okc cs) (s g : Option Run) : restN cs (prodM cs - 1) s g = if s = g then 1 else 0 := by
  unfold restN
  rw [go_last ok]
  split <;> rfl
theorem flat_get {α β : Type} {f : α → List β} : ∀ {A : List α} {i : Nat} {a : α} {j : Nat}, A[i]? = some a → j < (f a).length → (A.flatMap f)[((A.take i).map fun x => (f x).length).sum + j]? = (f a)[j]?
  | [], i, a, j, h, _ => by cases h
  | x :: A, 0, a, j, h, hj => by
    cases Option.some.inj h
    rw [List.flatMap_cons, List.take_zero, List.map_nil, List.sum_nil, Nat.zero_add, List.getElem?_append_left hj]
  | x :: A, i + 1, a, j, h, hj => by
    have h : A[i]? = some a := h
    rw [List.flatMap_cons, List.take_succ_cons, List.map_cons, List.sum_cons, Nat.add_assoc, List.getElem?_append_right (Nat.le_add_right ..), Nat.add_sub_cancel_left]
    exact flat_get h hj
/-! ### the orders item by item -/
def extR (cs : List Run) (p : List Str) : List (List Str) := (cs.filter fun r => decide (((p.count r.1 : Nat) : Int) < r.2)).map fun r => p ++ [r.1]
def frL (cs : List Run) : Nat → List (List Str)
  | 0 => [[]]
  | m + 1 => (frL cs m).flatMap (extR cs)
def extL (cs : List Run) : Nat → List Str → List (List Str)
  | 0, p => [p]
  | m + 1, p => (extR cs p).flatMap (extL cs m)
theorem ext_snoc (cs : List Run) : ∀ (m : Nat) (p : List Str), (extL cs m p).flatMap (extR cs) = extL cs (m + 1) p
  | 0, p => by
    show [p].flatMap (extR cs) = (extR cs p).flatMap fun q => [q]
    rw [List.flatMap_cons, List.flatMap_nil, List.append_nil]
    induction extR cs p with
    | nil => rfl
    | cons a t ih => rw [List.flatMap_cons, ← ih]; rfl
  | m + 1, p => by
    show ((extR cs p).flatMap (extL cs m)).flatMap (extR cs) = (extR cs p).flatMap (extL cs (m + 1))
    rw [List.flatMap_assoc]
    exact flat_cong fun q _ => ext_snoc cs m q
theorem fr_ext (cs : List Run) : ∀ m, frL cs m = extL cs m []
  | 0 => rfl
  | m + 1 => by
    show (frL cs m).flatMap (extR cs) = _
    rw [fr_ext cs m, ext_snoc]
def leftOf (cs : List Run) (p : List Str) : List Run := posR (cs.map fun r => (r.1, r.2 - ((p.count r.1 : Nat) : Int)))
theorem leftOf_less {cs : List Run} {p : List Str} {k : Str} (nn : ∀ r ∈ cs, ((p.count r.1 : Nat) : Int) ≤ r.2) : lessR (leftOf cs p) k = leftOf cs (p ++ [k]) := by
  unfold lessR leftOf
  rw [pos_dec _ _ fun r hr => by
    obtain ⟨q, hq, rfl⟩ := List.mem_map.mp hr
    have := nn q hq
    show 0 ≤ q.2 - _
    omega, List.map_map]
  congr 1
  refine List.map_congr_left fun q _ => Prod.ext rfl ?_
  show q.2 - ((p.count q.1 : Nat) : Int) - (if q.1 = k then 1 else 0) = q.2 - (((p ++ [k]).count q.1 : Nat) : Int)
  rw [List.count_append, List.count_singleton]
  by_cases c : q.1 = k
  · rw [if_pos c, c, if_pos (by simp)]
    omega
  · rw [if_neg c, if_neg (by simpa using fun z => c z.symm)]
    omega
theorem ext_suf {cs : List Run} (asc : Asc cs) : ∀ (m : Nat) (p : List Str), (∀ r ∈ cs, ((p.count r.1 : Nat) : Int) ≤ r.2) → extL cs m p = (sufL m (leftOf cs p)).map (p ++ ·)
  | 0, p, _ => by
    show [p] = [p ++ []]
    rw [List.append_nil]
  | m + 1, p, nn => by
    show (extR cs p).flatMap (extL cs m) = ((leftOf cs p).flatMap fun r => (sufL m (lessR (leftOf cs p) r.1)).map (r.1 :: ·)).map (p ++ ·)
    have el : leftOf cs p = (cs.filter fun r => decide (((p.count r.1 : Nat) : Int) < r.2)).map fun r => (r.1, r.2 - ((p.count r.1 : Nat) : Int)) := by
      unfold leftOf posR
      rw [List.filter_map]
      congr 1
      refine List.filter_congr fun q _ => ?_
      show decide (0 < q.2 - ((p.count q.1 : Nat) : Int)) = decide (((p.count q.1 : Nat) : Int) < q.2)
      exact decide_eq_decide.mpr (by omega)
    rw [List.map_flatMap]
    conv => rhs; rw [el]
    unfold extR
    rw [List.flatMap_map, List.flatMap_map]
    refine flat_cong fun r hr => ?_
    obtain ⟨hm, hc⟩ := List.mem_filter.mp hr
    have hc := of_decide_eq_true hc
    have nn2 : ∀ q ∈ cs, (((p ++ [r.1]).count q.1 : Nat) : Int) ≤ q.2 := fun q hq => by
      rw [List.count_append, List.count_singleton]
      by_cases c : q.1 = r.1
      · have : q = r := asc_one asc hq hm c
        rw [this, if_pos (by simp)]
        omega
      · rw [if_neg (by simpa using fun z => c z.symm)]
        exact nn q hq
    rw [← el]
    show extL cs m (p ++ [r.1]) = ((sufL m (lessR (leftOf cs p) r.1)).map (r.1 :: ·)).map (p ++ ·)
    rw [ext_suf asc m _ nn2, leftOf_less nn, List.map_map]
    refine List.map_congr_left fun l _ => ?_
    show p ++ [r.1] ++ l = p ++ (r.1 :: l)
    rw [List.append_assoc]
    rfl
theorem fr_suf {cs : List Run} (ok : Okc cs) : frL cs (lenR cs).toNat = sufR cs := by
  have e : leftOf cs [] = cs := by
    have e1 : (cs.map fun r : Run => ((r.1, r.2 - (((([] : List Str).count r.1 : Nat)) : Int)) : Run)) = cs := by
      conv => rhs; rw [← List.map_id cs]
      exact List.map_congr_left fun r _ => Prod.ext rfl (by show r.2 - ((0 : Nat) : Int) = r.2; omega)
    unfold leftOf
    rw [e1]
    exact List.filter_eq_self.mpr fun r hr => by
      have h0 := ok.pos r hr
      exact decide_eq_true (show 0 < r.2 by omega)
  rw [fr_ext, ext_suf ok.asc _ [] fun r hr => by
    have := ok.pos r hr
    show ((0 : Nat) : Int) ≤ r.2
    omega, e]
  unfold sufR
  have : ∀ l : List (List Str), l.map (([] : List Str) ++ ·) = l := fun l => by
    conv => rhs; rw [← List.map_id l]
    exact List.map_congr_left fun x _ => rfl
  exact this _
/-- the orders of the counts that lead to a goal, as the law lists them -/
theorem fr_go {cs : List Run} (ok : Okc cs) (g : Option Run) : (frL cs (lenR cs).toNat).filter (fun l => decide (stI l none = g)) = goL cs 0 none g := by
  unfold goL
  rw [fr_suf ok, left_zero ok]
end UP

set_option Elab.async false
set_option linter.all false
set_option maxRecDepth 100000
set_option maxHeartbeats 4000000
set_option pp.maxSteps 600
namespace UP
open PySem PySem.Spec PyProof.Rows L2
/-! ### which states stand in the dicts of the marks -/
def PosF (F : List DFn) : Prop := ∀ (j : Nat) (f : DFn), F[j]? = some f → ∀ p ∈ f, 0 < p.2
theorem add_pos : ∀ {f : DFn} {s : Option Run} {n : Nat}, 0 < n → (∀ p ∈ f, 0 < p.2) → ∀ p ∈ addF f s n, 0 < p.2
  | [], s, n, h, _, p, hp => by
    rw [List.mem_singleton.mp hp]
    exact h
  | q :: t, s, n, h, k, p, hp => by
    unfold addF at hp
    by_cases c : q.1 = s
    · rw [if_pos c] at hp
      rcases List.mem_cons.mp hp with e | e
      · rw [e]
        exact Nat.add_pos_right _ h
      · exact k p (List.mem_cons_of_mem _ e)
    · rw [if_neg c] at hp
      rcases List.mem_cons.mp hp with e | e
      · rw [e]
        exact k q (List.mem_cons_self ..)
      · exact add_pos h (fun x hx => k x (List.mem_cons_of_mem _ hx)) p e
theorem PosF.put {F : List DFn} (b : PosF F) {a : Nat} {s : Option Run} {n : Nat} (h : 0 < n) : PosF (putF F a s n) := fun j f hf => by
  rw [put_at] at hf
  by_cases c : a = j
  · rw [if_pos c] at hf
    cases e : F[j]? with
    | none => rw [e] at hf; cases hf
    | some g =>
      rw [e] at hf
      obtain rfl := Option.some.inj hf
      exact add_pos h (b j g e)
  · rw [if_neg c] at hf
    exact b j f hf
theorem PosF.inn {k : Str} {a : Nat} : ∀ (rs : DFn) {F : List DFn}, (∀ p ∈ rs, 0 < p.2) → PosF F → PosF (innF k a rs F)
  | [], _, _, b => b
  | p :: t, _, h, b => PosF.inn t (fun q hq => h q (List.mem_cons_of_mem _ hq)) (b.put (h p (List.mem_cons_self ..)))
theorem PosF.out {rs : DFn} (h : ∀ p ∈ rs, 0 < p.2) : ∀ (arr : List (Str × Nat)) {F : List DFn}, PosF F → PosF (outF rs F arr)
  | [], _, b => b
  | _ :: t, _, b => PosF.out h t (b.inn rs h)
theorem main_pos (cs : List Run) : ∀ m, PosF (mainF cs m)
  | 0 => by
    have b0 : PosF (List.replicate (prodM cs) []) := fun j f h p hp => by
      rw [(List.mem_replicate.mp (List.mem_of_getElem? h)).2] at hp
      cases hp
    exact b0.put Nat.one_pos
  | m + 1 => by
    have b := main_pos cs m
    refine PosF.out (fun p hp => ?_) _ b
    cases e : (mainF cs m)[m]? with
    | none => rw [e] at hp; cases hp
    | some f =>
      rw [e] at hp
      exact b m f e p hp
theorem get_pos : ∀ {f : DFn} {s : Option Run}, (∀ p ∈ f, 0 < p.2) → s ∈ f.map (·.1) → 0 < getF f s
  | p :: t, s, h, hs => by
    show 0 < if p.1 = s then p.2 else getF t s
    by_cases c : p.1 = s
    · rw [if_pos c]
      exact h p (List.mem_cons_self ..)
    · rw [if_neg c]
      refine get_pos (fun q hq => h q (List.mem_cons_of_mem _ hq)) ?_
      rcases List.mem_cons.mp hs with e | e
      · exact absurd e.symm c
      · exact e
/-- the dict of a mark in the end -/
def atF (cs : List Run) (m : Nat) : DFn := ((mainF cs (prodM cs))[m]?).getD []
theorem at_get {cs : List Run} {m : Nat} (hm : m < prodM cs) : (mainF cs (prodM cs))[m]? = some (atF cs m) := by
  have b := main_box cs (prodM cs) (Nat.le_refl _)
  have l : m < (mainF cs (prodM cs)).length := by rw [b.len]; exact hm
  unfold atF
  rw [List.getElem?_eq_getElem l]
  rfl
theorem at_key {cs : List Run} (ok : Okc cs) {m : Nat} (hm : m < prodM cs) (s : Option Run) : s ∈ (atF cs m).map (·.1) ↔ s ∈ endsR (cntAt cs m) := by
  have v : getF (atF cs m) s = numE (cntAt cs m) s := main_num ok hm s
  have c : 0 < numE (cntAt cs m) s ↔ s ∈ endsR (cntAt cs m) := List.count_pos_iff
  rw [← c, ← v]
  constructor
  · exact get_pos (main_pos cs (prodM cs) m _ (at_get hm))
  · intro h
    refine Classical.byContradiction fun n => ?_
    rw [get_none n] at h
    exact absurd h (Nat.lt_irrefl _)
theorem at_once {cs : List Run} {m : Nat} (hm : m < prodM cs) : ((atF cs m).map (·.1)).Nodup := (main_box cs (prodM cs) (Nat.le_refl _)).once m _ (at_get hm)
theorem at_first {cs : List Run} (ok : Okc cs) : none ∈ (atF cs 0).map (·.1) := by
  rw [at_key ok (prodM_pos cs), cnt_zero]
  exact List.mem_cons_self ..
theorem at_step {cs : List Run} (ok : Okc cs) {m : Nat} (hm : m < prodM cs) {s : Option Run} (hs : s ∈ (atF cs m).map (·.1)) {a : Str × Nat} (ha : a ∈ arrM cs m) : stepR s a.1 1 ∈ (atF cs a.2).map (·.1) := by
  obtain ⟨_, _, lt⟩ := arr_mem hm ha
  rw [at_key ok hm] at hs
  rw [at_key ok lt]
  obtain ⟨p, hp, rfl⟩ := List.mem_map.mp ha
  obtain ⟨hp, hd⟩ := List.mem_filter.mp hp
  obtain ⟨i, hi⟩ := List.getElem?_of_mem hp
  obtain ⟨_, u1, _⟩ := dig_up hi hm (of_decide_eq_true hd)
  have hr : ((p.1.1, ((digM p (m + p.2) : Nat) : Int)) : Run) ∈ cntAt cs (m + p.2) := posR_mem.mpr ⟨List.mem_map.mpr ⟨p, hp, rfl⟩, by show (0 : Int) < ((digM p (m + p.2) : Nat) : Int); omega⟩
  show stepR s p.1.1 1 ∈ endsR (cntAt cs (m + p.2))
  rw [ends_step (cnt_ok ok _) (fun z => by rw [z] at hr; cases hr)]
  refine List.mem_flatMap.mpr ⟨_, hr, List.mem_map.mpr ⟨s, ?_, rfl⟩⟩
  show s ∈ endsR (lessR (cntAt cs (m + p.2)) p.1.1)
  rw [cnt_less (j := m + p.2) ok hi lt (by rw [u1]; exact Nat.succ_pos _), Nat.add_sub_cancel]
  exact hs
/-- the dicts of what is left -/
def restD (cs : List Run) (g : Option Run) (m : Nat) : DFn := (atF cs m).map fun p => (p.1, restN cs m p.1 g)
def restF (cs : List Run) (g : Option Run) : List DFn := (List.range (prodM cs)).map (restD cs g)
theorem rest_get {cs : List Run} {g : Option Run} {m : Nat} (hm : m < prodM cs) : (restF cs g)[m]? = some (restD cs g m) := by
  unfold restF
  rw [List.getElem?_map, List.getElem?_range hm]
  rfl
theorem get_map {f : DFn} {h : Option Run → Nat} : ∀ {s : Option Run}, s ∈ f.map (·.1) → getF (f.map fun p => (p.1, h p.1)) s = h s := by
  induction f with
  | nil => intro s hs; cases hs
  | cons p t ih =>
    intro s hs
    show (if p.1 = s then h p.1 else getF (t.map fun p => (p.1, h p.1)) s) = h s
    by_cases c : p.1 = s
    · rw [if_pos c, c]
    · rw [if_neg c]
      rcases List.mem_cons.mp hs with e | e
      · exact absurd e.symm c
      · exact ih e
theorem rest_val {cs : List Run} {g s : Option Run} {m : Nat} (hs : s ∈ (atF cs m).map (·.1)) : getF (restD cs g m) s = restN cs m s g := get_map (h := fun s => restN cs m s g) hs
theorem restD_keys (cs : List Run) (g : Option Run) (m : Nat) : (restD cs g m).map (·.1) = (atF cs m).map (·.1) := by
  unfold restD
  rw [List.map_map]
  rfl
end UP

set_option Elab.async false
set_option linter.all false
set_option maxRecDepth 100000
set_option maxHeartbeats 4000000
set_option pp.maxSteps 600
namespace UP
open PySem PySem.Spec PyProof.Rows L2
theorem ip_mulW {X : Cx} : PIp X .Mult (rI CMulW fun i j => V.int (i * j)) := by
  intro pins s σ H x y v u Q I r1 r2 h
  obtain ⟨i, j, e1, e2, c, q⟩ := h
  subst e1; subst e2
  obtain ⟨t, rfl⟩ := r1
  obtain ⟨t', rfl⟩ := r2
  exact imul_int ⟨.int _, H, I.tok _, ⟨_, rfl⟩, q⟩ c.ok
def natV (n : Nat) : V := .int (n : Int)
def prodL : List Nat → Nat
  | [] => 1
  | n :: t => n * prodL t
theorem prodL_snoc (n : Nat) : ∀ l : List Nat, prodL (l ++ [n]) = prodL l * n
  | [] => by show n * 1 = 1 * n; rw [Nat.mul_one, Nat.one_mul]
  | m :: t => by
    show m * prodL (t ++ [n]) = m * prodL t * n
    rw [prodL_snoc n t, Nat.mul_assoc]
theorem prodL_pos : ∀ {l : List Nat}, (∀ n ∈ l, 1 ≤ n) → 1 ≤ prodL l
  | [], _ => Nat.le_refl _
  | n :: t, h => Nat.mul_pos (h n (List.mem_cons_self ..)) (prodL_pos fun m hm => h m (List.mem_cons_of_mem _ hm))
theorem prodL_take {l : List Nat} (h : ∀ n ∈ l, 1 ≤ n) (i : Nat) : prodL (l.take i) ≤ prodL l := by
  have gen : ∀ a b : List Nat, (∀ n ∈ b, 1 ≤ n) → prodL a ≤ prodL (a ++ b) := by
    intro a b hb
    induction a with
    | nil => exact prodL_pos hb
    | cons x t ih => exact Nat.mul_le_mul_left _ ih
  have := gen (l.take i) (l.drop i) fun n hn => h n (List.mem_of_mem_drop hn)
  rwa [List.take_append_drop] at this
theorem prodL_mem {l : List Nat} (h : ∀ n ∈ l, 1 ≤ n) : ∀ {n : Nat}, n ∈ l → n ≤ prodL l := by
  induction l with
  | nil => intro n hn; cases hn
  | cons x t ih =>
    intro n hn
    have p := prodL_pos fun m hm => h m (List.mem_cons_of_mem _ hm)
    have x1 := h x (List.mem_cons_self ..)
    rcases List.mem_cons.mp hn with e | hn
    · rw [e]
      exact Nat.le_mul_of_pos_right _ p
    · exact Nat.le_trans (ih (fun m hm => h m (List.mem_cons_of_mem _ hm)) hn) (Nat.le_mul_of_pos_left _ x1)
theorem prodM_eq : ∀ cs : List Run, prodM cs = prodL (cs.map fun r => r.2.toNat + 1)
  | [] => rfl
  | r :: t => by rw [prodM, prodM_eq t]; rfl
def StpV (H : Hp) (x : V) (p : Run × Nat) : Prop := ∃ t, x = .ref t ∧ H t = some (.tup [.str p.1.1, .int p.1.2, natV p.2])
theorem StpV.same {H H' : Hp} {x : V} {p : Run × Nat} (s : Same H H') (h : StpV H x p) : StpV H' x p := by
  obtain ⟨t, rfl, ht⟩ := h
  exact ⟨t, rfl, s _ _ ht⟩
def Stps (H : Hp) (a : Addr) (l : List (Run × Nat)) : Prop := ∃ xs, H a = some (.lst xs) ∧ Paired (StpV H) xs l
theorem paired_rev {α β : Type} {F : α → β → Prop} {xs : List α} {ys : List β} (h : Paired F xs ys) : Paired F xs.reverse ys.reverse := by
  induction h with
  | nil => exact .nil
  | cons a _ ih =>
    rw [List.reverse_cons, List.reverse_cons]
    exact Paired.app ih (.cons a .nil)
theorem steps_drop : ∀ (cs : List Run) (i : Nat), stepsM (cs.drop i) = (stepsM cs).drop i
  | [], i => by cases i <;> rfl
  | r :: t, 0 => rfl
  | r :: t, i + 1 => steps_drop t i
theorem prodM_drop : ∀ (cs : List Run) (i : Nat), prodM (cs.drop i) ≤ prodM cs
  | [], i => by cases i <;> exact Nat.le_refl _
  | r :: t, 0 => Nat.le_refl _
  | r :: t, i + 1 => Nat.le_trans (prodM_drop t i) (Nat.le_mul_of_pos_left _ (Nat.succ_pos _))
theorem prodM_mem {cs : List Run} {r : Run} (h : r ∈ cs) : r.2.toNat + 1 ≤ prodM cs := by
  rw [prodM_eq]
  refine prodL_mem (fun n hn => ?_) (List.mem_map.mpr ⟨r, h, rfl⟩)
  obtain ⟨x, _, rfl⟩ := List.mem_map.mp hn
  omega
section
variable {P : Program} {w : World} {K : PySem.W.Frag} {mg : Str → Option Value} {base : Heap}
/-! product_of: slots 0:numbers 1:product 2:number -/
abbrev s_product_of : Stmt := topS 22
theorem sc_product_of : FnScope ["numbers", "product", "number"] ["numbers"] (defScope s_product_of) := ⟨rfl, rfl, rfl, by decide +kernel, rfl, by decide +kernel, by decide +kernel⟩
def sp_product_of : Sp := fun vs H Q _ => ∃ (a : Addr) (ns : List Nat), vs = [.ref a] ∧ H a = some (.lst (ns.map natV)) ∧ (∀ n ∈ ns, 1 ≤ n) ∧ prodL ns ≤ 3000 ∧ Q (natV (prodL ns)) H
theorem ok_product_of (D : Df K mg "product_of" s_product_of) : Has P w K mg base 1 "product_of" ["numbers"] sp_product_of := by
  refine has_of D sc_product_of (fun _ _ _ _ _ _ us hl => match us, hl with | [_], _ => rfl) (fun vs H Q E h => ?_) (fun f cdv A outer s H vs Q E hr h => ?_)
  · obtain ⟨_, _, rfl, _⟩ := h
    rfl
  · obtain ⟨a, ns, rfl, ha, n1, p3, q⟩ := h
    refine ⟨_, (pss_cons (ps_set (i := 1) sc_product_of.nd rfl (by first | exact Or.inl rfl | exact Or.inr rfl) pe_int)
    (pss_cons (ps_for PassesOwn.never rfl (pi_list (pv 0)) (pg_name (i := 2) sc_product_of.nd rfl (by first | exact Or.inl rfl | exact Or.inr rfl))
      (pss_one (ps_aug (i := 1) sc_product_of.nd rfl (by first | exact Or.inl rfl | exact Or.inr rfl) (pv 2) ip_mulW)))
    (pss_one (ps_ret (pv 1))))), ?_⟩
    refine ⟨_, rfl, a, rfl, ⟨_, .of ha⟩, for_list (K := K) (a := a) (xs := ns.map natV) (fun i σ H' => ∃ y2, σ = [some (.ref a), some (natV (prodL (ns.take i))), y2] ∧ H' = H) ⟨none, rfl, rfl⟩ (fun i σ H' _ hP => ?_) (fun i x σ H1 ex hP => ?_) (fun σ H1 hP => ?_)⟩
    · obtain ⟨_, _, rfl⟩ := hP
      exact .of ha
    · obtain ⟨y2, rfl, rfl⟩ := hP
      rw [List.getElem?_map] at ex
      obtain ⟨n, en, rfl⟩ : ∃ n, ns[i]? = some n ∧ natV n = x := by
        cases hn : ns[i]? with
        | none => rw [hn] at ex; cases ex
        | some n => rw [hn] at ex; exact ⟨n, rfl, Option.some.inj ex⟩
      have h1 := prodL_take n1 i
      have h2 := prodL_mem n1 (List.mem_of_getElem? en)
      refine ⟨_, rfl, _, rfl, _, _, rfl, rfl, wide_mul (a := 12) (b := 12) (by rw [Int.natAbs_natCast]; exact Nat.lt_of_le_of_lt (Nat.le_trans h1 p3) (by decide)) (by rw [Int.natAbs_natCast]; exact Nat.lt_of_le_of_lt (Nat.le_trans h2 p3) (by decide)) (by decide) (by decide) (by decide), some (natV n), ?_, rfl⟩
      rw [take_snoc en, prodL_snoc]
      unfold natV
      rw [Int.natCast_mul]
      rfl
    · obtain ⟨y2, rfl, rfl⟩ := hP
      rw [List.length_map, List.take_length]
      exact ⟨_, rfl, q⟩
/-! check_product: slots 0:counts 1:product 2:kind 3:count -/
abbrev s_check_product : Stmt := topS 40
theorem sc_check_product : FnScope ["counts", "product", "kind", "count"] ["counts"] (defScope s_check_product) := ⟨rfl, rfl, rfl, by decide +kernel, rfl, by decide +kernel, by decide +kernel⟩
def sp_check_product : Sp := fun vs H Q _ => ∃ (a : Addr) (cs : List Run), vs = [.ref a] ∧ Runs H a cs ∧ CtOk cs ∧ prodM cs ≤ 3000 ∧ ∀ H', Same H H' → Q .non H'
theorem ok_check_product (D : Df K mg "check_product" s_check_product) (T : Tx mg) (G_product_of : Has P w K mg base 1 "product_of" ["numbers"] sp_product_of) : Has P w K mg base 2 "check_product" ["counts"] sp_check_product := by
  refine has_of D sc_check_product (fun _ _ _ _ _ _ us hl => match us, hl with | [_], _ => rfl) (fun vs H Q E h => ?_) (fun f cdv A outer s H vs Q E hr h => ?_)
  · obtain ⟨_, _, rfl, _⟩ := h
    rfl
  · obtain ⟨a, cs, rfl, ⟨xs, hx, hp⟩, ok, p3, q⟩ := h
    have lx : xs.length = cs.length := Paired.len hp
    refine ⟨_, (pss_cons (ps_set (i := 1) sc_check_product.nd rfl (by first | exact Or.inl rfl | exact Or.inr rfl) (pe_callH G_product_of (hr.mono (by omega)) (by rfl) (pa_cons (pe_lc (own := [("kind", 2), ("count", 3)]) rfl sc_check_product.nd (pi_list (pv 0)) (blkOk_by (N := ["counts", "product", "kind", "count"]) (sc := defScope s_check_product) (by decide +kernel)) (fun _ _ _ _ _ => (pg_tupK (K := K) (n := 2) rfl rfl (pgs_cons (pg_name (i := 2) sc_check_product.nd rfl (by first | exact Or.inl rfl | exact Or.inr rfl)) (pgs_cons (pg_name (i := 3) sc_check_product.nd rfl (by first | exact Or.inl rfl | exact Or.inr rfl)) pgs_nil)))) (fun _ _ _ _ _ => pts_nil) (fun _ _ _ _ _ => (pe_op op_add (pv 3) pe_int))) pa_nil)))
    (pss_one (ps_if (pt_cmpR op_gt (pv 1) (pe_glI T.c_MAX_PRODUCT (by rfl)) (nomark _)) (pss_one ps_never) pss_nil))), ?_⟩
    refine ⟨_, rfl, a, rfl, ⟨xs, .of hx⟩, fun L nL => lc_list (K := K) (a := a) (xs := xs) (fun i H' => Same H H' ∧ H' L = some (.lst (((cs.map fun r => r.2.toNat + 1).take i).map natV))) ⟨same_upd nL, upd_same⟩ (fun i H' _ p => .of (p.1 _ _ hx)) (fun i x H2 ex p => ?_) (fun H2 p => ?_)⟩
    · obtain ⟨sm, hL⟩ := p
      obtain ⟨r, er, t, rfl, ht⟩ := Paired.at hp ex
      have c1 := (ok.2.1 r (List.mem_of_getElem? er)).2.1
      have hi : i < xs.length := (List.getElem?_eq_some_iff.mp ex).1
      have l12 := ok.1
      refine ⟨t, _, rfl, .of (sm _ _ ht), rfl, _, _, rfl, _, _, rfl, rfl, rfl, yesT ⟨_, rfl, _, _, rfl, rfl, _, hL, ?_, same_grow nL sm, ?_⟩⟩
      · simp only [List.length_map, List.length_take]
        exact small (by omega)
      · rw [upd_same, take_snoc (x := r.2.toNat + 1) (by rw [List.getElem?_map, er]; rfl), List.map_append]
        have e : ((r.2.toNat + 1 : Nat) : Int) = r.2 + 1 := by omega
        unfold natV
        rw [List.map_cons, e]
        rfl
    · obtain ⟨sm, hL⟩ := p
      rw [List.take_of_length_le (by rw [List.length_map, lx]; exact Nat.le_refl _)] at hL
      refine ⟨L, _, rfl, hL, (fun n hn => ?_), by rw [← prodM_eq]; exact p3, ?_⟩
      · obtain ⟨r, _, rfl⟩ := List.mem_map.mp hn
        omega
      refine ⟨_, rfl, _, _, rfl, rfl, _, rfl, ite2 (fun e => ?_) (fun _ => q _ sm)⟩
      have e : (3000 : Int) < ((prodL (cs.map fun r => r.2.toNat + 1) : Nat) : Int) := of_decide_eq_true e
      rw [← prodM_eq] at e
      omega
/-! steps_of: slots 0:counts 1:steps 2:step 3:kind 4:count -/
abbrev s_steps_of : Stmt := topS 41
theorem sc_steps_of : FnScope ["counts", "steps", "step", "kind", "count"] ["counts"] (defScope s_steps_of) := ⟨rfl, rfl, rfl, by decide +kernel, rfl, by decide +kernel, by decide +kernel⟩
def sp_steps_of : Sp := fun vs H Q _ => ∃ (a : Addr) (cs : List Run), vs = [.ref a] ∧ Runs H a cs ∧ CtOk cs ∧ prodM cs ≤ 3000 ∧ ∀ H' p, Same H H' → H p = none → Stps H' p (stepsM cs) → Q (.ref p) H'
theorem ok_steps_of (D : Df K mg "steps_of" s_steps_of) (T : Tx mg) : Has P w K mg base 1 "steps_of" ["counts"] sp_steps_of := by
  refine has_of D sc_steps_of (fun _ _ _ _ _ _ us hl => match us, hl with | [_], _ => rfl) (fun vs H Q E h => ?_) (fun f cdv A outer s H vs Q E hr h => ?_)
  · obtain ⟨_, _, rfl, _⟩ := h
    rfl
  · obtain ⟨a, cs, rfl, ⟨xs, hx, hp⟩, ok, p3, q⟩ := h
    have lx : xs.length = cs.length := Paired.len hp
    have l12 := ok.1
    have ls : (stepsM cs).length = cs.length := by
      have := congrArg List.length (stepsM_fst cs)
      rwa [List.length_map] at this
    refine ⟨_, (pss_cons (ps_set (i := 1) sc_steps_of.nd rfl (by first | exact Or.inl rfl | exact Or.inr rfl) (pe_lst pa_nil))
    (pss_cons (ps_set (i := 2) sc_steps_of.nd rfl (by first | exact Or.inl rfl | exact Or.inr rfl) pe_int)
    (pss_cons (ps_for PassesOwn.never rfl (pi_reversed (by rfl) T.n_reversed (pa_cons (pv 0) pa_nil)) (pg_tup rfl (pgs_cons (pg_name (i := 3) sc_steps_of.nd rfl (by first | exact Or.inl rfl | exact Or.inr rfl)) (pgs_cons (pg_name (i := 4) sc_steps_of.nd rfl (by first | exact Or.inl rfl | exact Or.inr rfl)) pgs_nil)))
      (pss_cons (ps_expr (pe_bm PySem.F.plainAttrs_list PySem.F.slot_list_append PySem.F.type_list_append mt_append (pv 1) (pa_cons (pe_tup (pa_cons (pv 3) (pa_cons (pv 4) (pa_cons (pv 2) pa_nil)))) pa_nil)))
    (pss_one (ps_aug (i := 2) sc_steps_of.nd rfl (by first | exact Or.inl rfl | exact Or.inr rfl) (pe_op op_add (pv 4) pe_int) ip_mulW))))
    (pss_one (ps_ret (pe_revL (pv 1))))))), ?_⟩
    refine ⟨Nat.zero_le _, fun L nL => ?_⟩
    have hL0 : (upd H L (.lst [])) L = some (.lst []) := upd_same
    refine ⟨_, rfl, a, _, rfl, .of (same_upd nL _ _ hx), for_gen (J := Itv K a xs.length) (n := cs.length) (fun j σ H' => ∃ y3 y4 ys, σ = [some (.ref a), some (.ref L), some (natV (prodM (cs.drop (cs.length - j)))), y3, y4] ∧ Same H H' ∧ H' L = some (.lst ys) ∧ Paired (StpV H') ys ((stepsM cs).drop (cs.length - j)).reverse) ⟨none, none, [], ?_, same_upd nL, hL0, ?_⟩ (fun j σ H' hj hP => ?_) (fun σ H' hP => ?_) (fun j x σ H4 H5 hj hP hy => ?_) (fun σ H4 hP => ?_)⟩
    · rw [Nat.sub_zero, List.drop_length]
      rfl
    · rw [Nat.sub_zero, List.drop_eq_nil_of_le (by rw [ls]; exact Nat.le_refl _)]
      exact .nil
    · obtain ⟨_, _, ys, _, sm, _, _⟩ := hP
      refine ⟨by rw [lx]; exact hj, xs, xs[xs.length - 1 - j]'(by omega), .of (sm _ _ hx), List.getElem?_eq_getElem _⟩
    · show xs.length ≤ cs.length
      rw [lx]
      exact Nat.le_refl _
    · obtain ⟨y3, y4, ys, rfl, sm, hL, hy2⟩ := hP
      obtain ⟨rfl, hy⟩ := hy
      have ex := hy _ (.of (sm _ _ hx))
      obtain ⟨r, er, t, rfl, ht⟩ := Paired.at hp ex
      have ht4 := sm _ _ ht
      rw [lx] at er
      obtain ⟨u, eu⟩ : ∃ u, cs.length - j = u + 1 := ⟨cs.length - j - 1, by omega⟩
      have eu1 : cs.length - 1 - j = u := by omega
      have eu2 : cs.length - (j + 1) = u := by omega
      rw [eu1] at er
      rw [eu] at hy2 ⊢
      rw [eu2]
      have ul : u < cs.length := by omega
      have hd : cs.drop u = r :: cs.drop (u + 1) := by
        rw [List.drop_eq_getElem_cons ul]
        congr 1
        rw [List.getElem?_eq_getElem ul] at er
        exact Option.some.inj er
      have hs : (stepsM cs).drop u = (r, prodM (cs.drop (u + 1))) :: (stepsM cs).drop (u + 1) := by
        rw [← steps_drop, hd, ← steps_drop]
        rfl
      rw [hs, hd, List.reverse_cons]
      have pd := prodM_drop cs (u + 1)
      have pr1 := prodM_mem (List.mem_of_getElem? er)
      have r1 := (ok.2.1 r (List.mem_of_getElem? er)).2.1
      have ly : ys.length ≤ 12 := by
        rw [Paired.len hy2, List.length_reverse, List.length_drop, ls]
        omega
      refine ⟨t, _, rfl, .of ht4, rfl, _, _, rfl, _, _, rfl, rfl, ?_⟩
      refine ⟨_, rfl, .inl ⟨rfl, _, SqL.of hL⟩, _, rfl, _, rfl, _, rfl, (by show 3 ≤ sizeLine; decide), fun T nT => ⟨L, _, _, rfl, rfl, same_upd nT _ _ hL, small (by omega), ?_⟩⟩
      have sT := same_upd (o := .tup [.str r.1, .int r.2, natV (prodM (cs.drop (u + 1)))]) nT
      have hT : (upd H5 T (.tup [.str r.1, .int r.2, natV (prodM (cs.drop (u + 1)))])) T = some (.tup [.str r.1, .int r.2, natV (prodM (cs.drop (u + 1)))]) := upd_same
      have gr : ∀ b ub, b ≠ L → (upd H5 T (.tup [.str r.1, .int r.2, natV (prodM (cs.drop (u + 1)))])) b = some ub → (upd (upd H5 T (.tup [.str r.1, .int r.2, natV (prodM (cs.drop (u + 1)))])) L (.lst (ys ++ [.ref T]))) b = some ub := fun b ub n e => by rw [upd_ne n]; exact e
      have stL : ∀ (x : V) (q' : Run × Nat), StpV (upd H5 T (.tup [.str r.1, .int r.2, natV (prodM (cs.drop (u + 1)))])) x q' → StpV (upd (upd H5 T (.tup [.str r.1, .int r.2, natV (prodM (cs.drop (u + 1)))])) L (.lst (ys ++ [.ref T]))) x q' := fun x q' z => by
        obtain ⟨b, rfl, hb⟩ := z
        refine ⟨b, rfl, gr b _ (fun e => ?_) hb⟩
        rw [e, sT _ _ hL] at hb
        cases hb
      refine ⟨_, rfl, _, rfl, _, _, rfl, rfl, _, _, rfl, rfl, wide_mul (a := 12) (b := 12) (by unfold natV at *; rw [Int.natAbs_natCast]; exact Nat.lt_of_le_of_lt (Nat.le_trans pd p3) (by decide)) (by show (r.2 + 1).natAbs < 4096; omega) (by decide) (by decide) (by decide), some (.str r.1), some (.int r.2), ys ++ [.ref T], ?_, same_grow nL (sm.trans sT), upd_same, ?_⟩
      · have e : ((prodM (cs.drop (u + 1)) : Nat) : Int) * (r.2 + 1) = ((prodM (r :: cs.drop (u + 1)) : Nat) : Int) := by
          rw [prodM, Int.natCast_mul, Int.mul_comm]
          congr 1
          omega
        unfold natV
        rw [← e]
        rfl
      · exact Paired.app (Paired.imp (fun x q' z => stL x q' (z.same sT)) hy2) (.cons (stL _ _ ⟨T, rfl, hT⟩) .nil)
    · obtain ⟨y3, y4, ys, rfl, sm, hL, hy2⟩ := hP
      rw [Nat.sub_self, List.drop_zero] at hy2
      refine ⟨_, rfl, L, _, rfl, .of hL, fun p np => q _ p (sm.trans (same_upd np)) (sm.free np) ⟨_, upd_same, ?_⟩⟩
      have := paired_rev hy2
      rw [List.reverse_reverse] at this
      exact Paired.imp (fun _ _ z => z.same (same_upd np)) this
/-! arrivals_at: slots 0:steps 1:mark 2:kind 3:count 4:step -/
abbrev s_arrivals_at : Stmt := topS 42
theorem sc_arrivals_at : FnScope ["steps", "mark", "kind", "count", "step"] ["steps", "mark"] (defScope s_arrivals_at) := ⟨rfl, rfl, rfl, by decide +kernel, rfl, by decide +kernel, by decide +kernel⟩
def ArrV (H : Hp) (x : V) (p : Str × Nat) : Prop := ∃ t, x = .ref t ∧ H t = some (.tup [.str p.1, natV p.2])
theorem ArrV.same {H H' : Hp} {x : V} {p : Str × Nat} (s : Same H H') (h : ArrV H x p) : ArrV H' x p := by
  obtain ⟨t, rfl, ht⟩ := h
  exact ⟨t, rfl, s _ _ ht⟩
def Arrs (H : Hp) (a : Addr) (l : List (Str × Nat)) : Prop := ∃ xs, H a = some (.lst xs) ∧ Paired (ArrV H) xs l
def arrL (l : List (Run × Nat)) (m : Nat) : List (Str × Nat) := (l.filter fun p => decide (digM p m < p.1.2.toNat)).map fun p => (p.1.1, m + p.2)
def sp_arrivals_at : Sp := fun vs H Q _ => ∃ (a : Addr) (cs : List Run) (m : Nat), vs = [.ref a, natV m] ∧ Stps H a (stepsM cs) ∧ CtOk cs ∧ prodM cs ≤ 3000 ∧ m < 3000 ∧ ∀ H' p, Same H H' → H p = none → Arrs H' p (arrM cs m) → Q (.ref p) H'
theorem ok_arrivals_at (D : Df K mg "arrivals_at" s_arrivals_at) (T : Tx mg) : Has P w K mg base 1 "arrivals_at" ["steps", "mark"] sp_arrivals_at := by
  refine has_of D sc_arrivals_at (fun _ _ _ _ _ _ us hl => match us, hl with | [_, _], _ => rfl) (fun vs H Q E h => ?_) (fun f cdv A outer s H vs Q E hr h => ?_)
  · obtain ⟨_, _, _, rfl, _⟩ := h
    rfl
  · obtain ⟨a, cs, m, rfl, ⟨xs, hx, hp⟩, ok, p3, m3, q⟩ := h
    have lx : xs.length = (stepsM cs).length := Paired.len hp
    have ls : (stepsM cs).length = cs.length := by
      have := congrArg List.length (stepsM_fst cs)
      rwa [List.length_map] at this
    have l12 := ok.1
    refine ⟨_, (pss_one (ps_ret (pe_lc (own := [("kind", 2), ("count", 3), ("step", 4)]) rfl sc_arrivals_at.nd (pi_list (pv 0)) (blkOk_by (N := ["steps", "mark", "kind", "count", "step"]) (sc := defScope s_arrivals_at) (by decide +kernel)) (fun _ _ _ _ _ => (pg_tupK (K := K) (n := 3) rfl rfl (pgs_cons (pg_name (i := 2) sc_arrivals_at.nd rfl (by first | exact Or.inl rfl | exact Or.inr rfl)) (pgs_cons (pg_name (i := 3) sc_arrivals_at.nd rfl (by first | exact Or.inl rfl | exact Or.inr rfl)) (pgs_cons (pg_name (i := 4) sc_arrivals_at.nd rfl (by first | exact Or.inl rfl | exact Or.inr rfl)) pgs_nil))))) (fun _ _ _ _ _ => pts_one (pt_cmpR op_lt (pe_op op_mod (pe_op op_fdivW (pv 1) (pv 4)) (pe_op op_add (pv 3) pe_int)) (pv 3) (nomark _))) (fun _ _ _ _ _ => (pe_tup (pa_cons (pv 2) (pa_cons (pe_op op_add (pv 1) (pv 4)) pa_nil))))))), ?_⟩
    refine ⟨_, rfl, a, rfl, ⟨xs, .of hx⟩, fun L nL => lc_list (K := K) (a := a) (xs := xs) (fun i H' => Same H H' ∧ ∃ ys, H' L = some (.lst ys) ∧ Paired (ArrV H') ys (arrL ((stepsM cs).take i) m)) ⟨same_upd nL, [], upd_same, .nil⟩ (fun i H' _ p => .of (p.1 _ _ hx)) (fun i x H2 ex p => ?_) (fun H2 p => ?_)⟩
    · obtain ⟨sm, ys, hL, hy⟩ := p
      obtain ⟨r, er, t, rfl, ht⟩ := Paired.at hp ex
      have p0 := stepsM_pos (List.mem_of_getElem? er)
      refine ⟨t, _, rfl, .of (sm _ _ ht), rfl, _, _, rfl, _, _, rfl, _, _, rfl, rfl, rfl, ?_⟩
      have mr : r.1 ∈ cs := by
        obtain ⟨i', hi'⟩ := List.getElem?_of_mem (List.mem_of_getElem? er)
        exact List.mem_of_getElem? (stepsM_at hi')
      have c1 := (ok.2.1 r.1 mr).2.1
      have s3 : r.2 ≤ 3000 := by
        obtain ⟨e, he⟩ := stepsM_dvd (List.mem_of_getElem? er)
        have h0 := prodM_pos cs
        have : r.2 ∣ prodM cs := Nat.dvd_trans ⟨r.1.2.toNat + 1, rfl⟩ ⟨e, he⟩
        exact Nat.le_trans (Nat.le_of_dvd h0 this) p3
      have ed : ((m : Nat) : Int) / ((r.2 : Nat) : Int) % (r.1.2 + 1) = ((digM r m : Nat) : Int) := by
        unfold digM
        rw [Int.natCast_emod, Int.natCast_ediv]
        congr 1
        omega
      have tk : arrL ((stepsM cs).take (i + 1)) m = arrL ((stepsM cs).take i) m ++ if digM r m < r.1.2.toNat then [(r.1.1, m + r.2)] else [] := by
        rw [take_snoc er]
        unfold arrL
        rw [List.filter_append, List.map_append]
        congr 1
        by_cases c : digM r m < r.1.2.toNat
        · rw [if_pos c, List.filter_cons_of_pos (by simpa using c)]
          rfl
        · rw [if_neg c, List.filter_cons_of_neg (by simpa using c)]
          rfl
      have ly : ys.length ≤ 12 := by
        rw [Paired.len hy]
        unfold arrL
        rw [List.length_map]
        refine Nat.le_trans (List.length_filter_le ..) ?_
        rw [List.length_take]
        omega
      refine ⟨_, rfl, _, rfl, _, _, rfl, rfl, wide_div (b := 12) (by show (0 : Int) < ((r.2 : Nat) : Int); omega) (by rw [Int.natAbs_natCast]; exact Nat.lt_of_le_of_lt s3 (by decide)) (by decide) (by decide), _, rfl, _, _, rfl, rfl, _, _, rfl, rfl, (by omega), _, rfl, _, _, rfl, rfl, _, rfl, ?_⟩
      rw [tk]
      by_cases c : digM r m < r.1.2.toNat
      · rw [if_pos c]
        have hc : decide (((m : Nat) : Int) / ((r.2 : Nat) : Int) % (r.1.2 + 1) < r.1.2) = true := decide_eq_true (by rw [ed]; omega)
        refine ite2 (fun _ => ?_) (fun e => absurd hc e)
        refine ⟨_, rfl, _, rfl, _, rfl, _, _, rfl, rfl, (by show 2 ≤ sizeLine; decide), fun n nn => ⟨_, same_upd nn _ _ hL, small (by omega), same_grow nL (sm.trans (same_upd nn)), _, upd_same, ?_⟩⟩
        have eA : V.int (((m : Nat) : Int) + ((r.2 : Nat) : Int)) = natV (m + r.2) := by
          unfold natV
          rw [Int.natCast_add]
        have hn : (upd H2 n (.tup [.str r.1.1, .int (((m : Nat) : Int) + ((r.2 : Nat) : Int))])) n = some (.tup [.str r.1.1, natV (m + r.2)]) := by
          rw [upd_same, eA]
        have gr : ∀ (x : V) (q' : Str × Nat), ArrV (upd H2 n (.tup [.str r.1.1, .int (((m : Nat) : Int) + ((r.2 : Nat) : Int))])) x q' → ArrV (upd (upd H2 n (.tup [.str r.1.1, .int (((m : Nat) : Int) + ((r.2 : Nat) : Int))])) L (.lst (ys ++ [.ref n]))) x q' := fun x q' z => by
          obtain ⟨b, rfl, hb⟩ := z
          refine ⟨b, rfl, ?_⟩
          rw [upd_ne]
          · exact hb
          · intro e
            rw [e, same_upd nn _ _ hL] at hb
            cases hb
        exact Paired.app (Paired.imp (fun x q' z => gr x q' (z.same (same_upd nn))) hy) (.cons (gr _ _ ⟨n, rfl, hn⟩) .nil)
      · rw [if_neg c, List.append_nil]
        have hc : decide (((m : Nat) : Int) / ((r.2 : Nat) : Int) % (r.1.2 + 1) < r.1.2) = false := decide_eq_false (by rw [ed]; omega)
        exact ite2 (fun e => absurd (e.symm.trans hc) (by decide)) (fun _ => ⟨sm, ys, hL, hy⟩)
    · obtain ⟨sm, ys, hL, hy⟩ := p
      rw [lx, List.take_length] at hy
      exact q H2 L sm nL ⟨ys, hL, hy⟩
/-- at d stands a dict of states with numbers -/
def WDs (w : World) (H : Hp) (d : Addr) (f : DFn) : Prop := ∃ rows, DXs w H d rows ∧ Paired (fun (r : RowX) (p : Option Run × Nat) => r.1 = keyR p.1 ∧ r.2.2 = natV p.2) rows f
theorem WDs.same {w : World} {H H' : Hp} {d : Addr} {f : DFn} (s : Same H H') (h : WDs w H d f) : WDs w H' d f := by
  obtain ⟨rows, D, pr⟩ := h
  exact ⟨rows, D.same s, pr⟩
theorem valX_cons (r : RowX) (rs : List RowX) (k : NestedKey) : valX (r :: rs) k = if r.1 = k then some r.2.2 else valX rs k := by
  unfold valX Dx.place
  rw [List.map_cons, List.findIdx?_cons]
  by_cases c : r.1 = k
  · simp [c]
  · simp only [c, decide_false, if_false, Bool.false_eq_true]
    cases List.findIdx? (fun x => decide (x = k)) (rs.map (·.1)) <;> simp
theorem putX_cons (r : RowX) (rs : List RowX) (k : NestedKey) (y v : V) : putX (r :: rs) k y v = if r.1 = k then (r.1, r.2.1, v) :: rs else r :: putX rs k y v := by
  unfold putX Dx.place
  rw [List.map_cons, List.findIdx?_cons]
  by_cases c : r.1 = k
  · simp [c]
  · simp only [c, decide_false, if_false, Bool.false_eq_true]
    cases List.findIdx? (fun x => decide (x = k)) (rs.map (·.1)) <;> simp
theorem wd_val {rows : List RowX} {f : DFn} (s : Option Run) (h : Paired (fun (r : RowX) (p : Option Run × Nat) => r.1 = keyR p.1 ∧ r.2.2 = natV p.2) rows f) : (valX rows (keyR s)).getD (natV 0) = natV (getF f s) := by
  induction h with
  | nil => rfl
  | cons a tl ih =>
    rename_i r p rs t
    rw [valX_cons]
    show _ = natV (if p.1 = s then p.2 else getF t s)
    by_cases c : p.1 = s
    · rw [if_pos (by rw [a.1, c]), if_pos c, Option.getD_some, a.2]
    · rw [if_neg (fun z => c (keyR_inj (a.1.symm.trans z))), if_neg c, ih]
theorem wd_put {rows : List RowX} {f : DFn} (s : Option Run) (n : Nat) (y : V) (h : Paired (fun (r : RowX) (p : Option Run × Nat) => r.1 = keyR p.1 ∧ r.2.2 = natV p.2) rows f) : Paired (fun (r : RowX) (p : Option Run × Nat) => r.1 = keyR p.1 ∧ r.2.2 = natV p.2) (putX rows (keyR s) y (natV (getF f s + n))) (addF f s n) := by
  induction h with
  | nil =>
    show Paired _ [(keyR s, y, natV (0 + n))] [(s, n)]
    rw [Nat.zero_add]
    exact .cons ⟨rfl, rfl⟩ .nil
  | cons a tl ih =>
    rename_i r p rs t
    rw [putX_cons]
    show Paired _ _ (if p.1 = s then (p.1, p.2 + n) :: t else p :: addF t s n)
    have g : getF (p :: t) s = if p.1 = s then p.2 else getF t s := rfl
    by_cases c : p.1 = s
    · rw [if_pos (by rw [a.1, c]), if_pos c, g, if_pos c]
      exact .cons ⟨a.1, rfl⟩ tl
    · rw [if_neg (fun z => c (keyR_inj (a.1.symm.trans z))), if_neg c, g, if_neg c]
      exact .cons a ih
/-! add_orders: slots 0:ways 1:state 2:orders -/
abbrev s_add_orders : Stmt := topS 43
theorem sc_add_orders : FnScope ["ways", "state", "orders"] ["ways", "state", "orders"] (defScope s_add_orders) := ⟨rfl, rfl, rfl, by decide +kernel, rfl, by decide +kernel, by decide +kernel⟩
def sp_add_orders (w : World) : Sp := fun vs H Q _ => ∃ (d : Addr) (f : DFn) (v : V) (s : Option Run) (n : Nat), vs = [.ref d, v, natV n] ∧ WDs w H d f ∧ StV H v s ∧ f.length ≤ 100000 ∧ ∀ o, WDs w (upd H d o) d (addF f s n) → Tups H (upd H d o) → Q .non (upd H d o)
theorem ok_add_orders (D : Df K mg "add_orders" s_add_orders) : Has P w K mg base 1 "add_orders" ["ways", "state", "orders"] (sp_add_orders w) := by
  refine has_of D sc_add_orders (fun _ _ _ _ _ _ us hl => match us, hl with | [_, _, _], _ => rfl) (fun vs H Q E h => ?_) (fun f cdv A outer s H vs Q E hr h => ?_)
  · obtain ⟨_, _, _, _, _, rfl, _⟩ := h
    rfl
  · obtain ⟨d, f, v, s, n, rfl, ⟨rows, dx, pr⟩, hv, l, q⟩ := h
    refine ⟨_, (pss_one (ps_dputX (w := w) rfl (room65 hr) (pv 0) (pv 1) (pe_op op_add (pe_getX (w := w) rfl (room65 hr) (pv 0) (pv 1) pe_int ⟨by rfl, by rfl, by rfl, by rfl⟩) (pv 2)) rfl)), ?_⟩
    have hk := key_st hv
    refine ⟨_, rfl, d, rfl, ⟨rows, dx⟩, _, rfl, rows, keyR s, dx, hk, ?_⟩
    have hz := wd_val s pr
    have lr : rows.length = f.length := Paired.len pr
    rw [show V.int 0 = natV 0 from rfl, hz]
    refine ⟨_, rfl, _, _, rfl, rfl, _, rfl, _, rfl, d, rows, keyR s, rfl, dx, hk, Nat.le_of_lt (small (by omega)), ?_⟩
    have e : V.int (((getF f s : Nat) : Int) + ((n : Nat) : Int)) = natV (getF f s + n) := by
      unfold natV
      rw [Int.natCast_add]
    show Q .non (upd H d (DX w d (putX rows (keyR s) v (V.int (((getF f s : Nat) : Int) + ((n : Nat) : Int))))))
    rw [e]
    exact q _ ⟨_, dx.put hk, wd_put s n v pr⟩ (Tups.put (noTup_dx dx.there))
end
end UP

set_option Elab.async false
set_option linter.all false
set_option maxRecDepth 100000
set_option maxHeartbeats 4000000
set_option pp.maxSteps 700
namespace UP
open PySem PySem.Spec PyProof.Rows L2
/-- all but the dicts stay -/
def Keep (ds : List Addr) (H H' : Hp) : Prop := ∀ b o, b ∉ ds → H b = some o → H' b = some o
theorem Keep.refl (ds : List Addr) (H : Hp) : Keep ds H H := fun _ _ _ e => e
theorem Keep.trans {ds : List Addr} {H H1 H2 : Hp} (a : Keep ds H H1) (b : Keep ds H1 H2) : Keep ds H H2 := fun c o n e => b c o n (a c o n e)
theorem Keep.of {ds : List Addr} {H H' : Hp} (s : Same H H') : Keep ds H H' := fun c o _ e => s c o e
theorem Keep.same {ds : List Addr} {H H' : Hp} {H0 : Hp} (k : Keep ds H H') (s : Same H0 H) (n : ∀ d ∈ ds, H0 d = none) : Same H0 H' := fun c o e => k c o (fun z => by rw [n c z] at e; cases e) (s c o e)
structure WaysH (w : World) (H : Hp) (L : Addr) (ds : List Addr) (F : List DFn) : Prop where
  lst : H L = some (.lst (ds.map V.ref))
  dic : Paired (fun d f => WDs w H d f) ds F
  nd : ds.Nodup
  out : L ∉ ds
theorem paired_ofX {α β : Type} {R : α → β → Prop} : ∀ {xs : List α} {ys : List β}, xs.length = ys.length → (∀ (j : Nat) (x : α) (y : β), xs[j]? = some x → ys[j]? = some y → R x y) → Paired R xs ys
  | [], [], _, _ => .nil
  | [], _ :: _, h, _ => by cases h
  | _ :: _, [], h, _ => by cases h
  | x :: xs, y :: ys, h, r => .cons (r 0 x y rfl rfl) (paired_ofX (Nat.succ.inj h) fun j a b h1 h2 => r (j + 1) a b h1 h2)
theorem WDs.noTup {w : World} {H : Hp} {d : Addr} {f : DFn} (h : WDs w H d f) : NoTup H d := by
  obtain ⟨rows, D, _⟩ := h
  exact noTup_dx D.there
theorem WDs.off {w : World} {H : Hp} {d a : Addr} {o : HO} {f : DFn} (n : d ≠ a) (t : Tups H (upd H a o)) (h : WDs w H d f) : WDs w (upd H a o) d f := by
  obtain ⟨rows, D, pr⟩ := h
  exact ⟨rows, ⟨by rw [upd_ne n]; exact D.there, fun r hr => (D.keys r hr).at t⟩, pr⟩
theorem WaysH.same {w : World} {H H' : Hp} {L : Addr} {ds : List Addr} {F : List DFn} (s : Same H H') (h : WaysH w H L ds F) : WaysH w H' L ds F := ⟨s _ _ h.lst, Paired.imp (fun _ _ z => z.same s) h.dic, h.nd, h.out⟩
theorem WaysH.len {w : World} {H : Hp} {L : Addr} {ds : List Addr} {F : List DFn} (h : WaysH w H L ds F) : ds.length = F.length := Paired.len h.dic
theorem WaysH.get {w : World} {H : Hp} {L : Addr} {ds : List Addr} {F : List DFn} (h : WaysH w H L ds F) {j : Nat} (hj : j < F.length) : ∃ d, ds[j]? = some d ∧ WDs w H d F[j] := by
  have hj' : j < ds.length := by rw [h.len]; exact hj
  obtain ⟨f, e, r⟩ := Paired.at h.dic (List.getElem?_eq_getElem hj')
  rw [List.getElem?_eq_getElem hj] at e
  cases e
  exact ⟨_, List.getElem?_eq_getElem hj', r⟩
theorem WaysH.tups {w : World} {H H' : Hp} {L : Addr} {ds : List Addr} {F : List DFn} (h : WaysH w H L ds F) (k : Keep ds H H') : Tups H H' := fun b xs e => k b _ (fun z => by
  obtain ⟨j, hj⟩ := List.getElem?_of_mem z
  obtain ⟨f, _, r⟩ := Paired.at h.dic hj
  exact r.noTup xs e) e
theorem WaysH.put {w : World} {H : Hp} {L : Addr} {ds : List Addr} {F : List DFn} (h : WaysH w H L ds F) {a : Nat} {d : Addr} {f : DFn} {s : Option Run} {n : Nat} {o : HO} (hd : ds[a]? = some d) (hf : F[a]? = some f) (new : WDs w (upd H d o) d (addF f s n)) (t : Tups H (upd H d o)) :
    WaysH w (upd H d o) L ds (putF F a s n) ∧ Keep ds H (upd H d o) := by
  have dm := List.mem_of_getElem? hd
  refine ⟨⟨?_, ?_, h.nd, h.out⟩, fun b u nb e => ?_⟩
  · have nL : L ≠ d := fun z => h.out (by rw [z]; exact dm)
    rw [upd_ne nL]
    exact h.lst
  · refine paired_ofX (ys := putF F a s n) (by unfold putF; rw [List.length_modify]; exact h.len) fun j x y h1 h2 => ?_
    rw [put_at] at h2
    by_cases c : a = j
    · subst c
      rw [if_pos rfl, hf] at h2
      rw [hd] at h1
      cases h1
      obtain rfl := Option.some.inj h2
      exact new
    · rw [if_neg c] at h2
      obtain ⟨f', e, r⟩ := Paired.at h.dic h1
      rw [h2] at e
      cases e
      refine r.off (fun z => c ?_) t
      rw [← z] at hd
      obtain ⟨i1, e1⟩ := List.getElem?_eq_some_iff.mp hd
      obtain ⟨i2, e2⟩ := List.getElem?_eq_some_iff.mp h1
      exact (List.getElem_inj h.nd).mp (e1.trans e2.symm)
  · have n2 : b ≠ d := fun z => nb (by rw [z]; exact dm)
    rw [upd_ne n2]
    exact e
theorem innF_snoc {k : Str} {a : Nat} {l : DFn} {p : Option Run × Nat} {F : List DFn} : innF k a (l ++ [p]) F = putF (innF k a l F) a (stepR p.1 k 1) p.2 := by
  unfold innF
  rw [List.foldl_append]
  rfl
theorem outF_snoc {rs : DFn} {F : List DFn} {l : List (Str × Nat)} {a : Str × Nat} : outF rs F (l ++ [a]) = innF a.1 a.2 rs (outF rs F l) := by
  unfold outF
  rw [List.foldl_append]
  rfl
/-- an item of list(d.items()) -/
def ItmV (H : Hp) (x : V) (p : Option Run × Nat) : Prop := ∃ t v, x = .ref t ∧ H t = some (.tup [v, natV p.2]) ∧ StV H v p.1
theorem ItmV.tups {H H' : Hp} {x : V} {p : Option Run × Nat} (t : Tups H H') (h : ItmV H x p) : ItmV H' x p := by
  obtain ⟨a, v, rfl, ha, hv⟩ := h
  exact ⟨a, v, rfl, t _ _ ha, hv.tups t⟩
theorem st_backX {H : Hp} {v : V} {s : Option Run} (h : NK H (keyR s) v) : StV H v s := st_back h
section
variable {P : Program} {w : World} {K : PySem.W.Frag} {mg : Str → Option Value} {base : Heap}
/-! ways_to: slots 0:counts 1:steps 2:ways 3:mark 4:reached 5:kind 6:after 7:state 8:orders 9:count -/
abbrev s_ways_to : Stmt := topS 44
theorem sc_ways_to : FnScope ["counts", "steps", "ways", "mark", "reached", "kind", "after", "state", "orders", "count"] ["counts"] (defScope s_ways_to) := ⟨rfl, rfl, rfl, by decide +kernel, rfl, by decide +kernel, by decide +kernel⟩
def sp_ways_to (w : World) : Sp := fun vs H Q _ => ∃ (a : Addr) (cs : List Run), vs = [.ref a] ∧ Runs H a cs ∧ CtOk cs ∧ prodM cs ≤ 3000 ∧ ∀ H' L ds, Same H H' → H L = none → (∀ d ∈ ds, H d = none) → WaysH w H' L ds (mainF cs (prodM cs)) → Q (.ref L) H'
theorem ok_ways_to (D : Df K mg "ways_to" s_ways_to) (T : Tx mg) (G_steps_of : Has P w K mg base 1 "steps_of" ["counts"] sp_steps_of) (G_product_of : Has P w K mg base 1 "product_of" ["numbers"] sp_product_of) (G_add_orders : Has P w K mg base 1 "add_orders" ["ways", "state", "orders"] (sp_add_orders w))
    (G_arrivals_at : Has P w K mg base 1 "arrivals_at" ["steps", "mark"] sp_arrivals_at) (G_state_after_run : Has P w K mg base 2 "state_after_run" ["state", "kind", "count"] sp_state_after_run) : Has P w K mg base 3 "ways_to" ["counts"] (sp_ways_to w) := by
  refine has_of D sc_ways_to (fun _ _ _ _ _ _ us hl => match us, hl with | [_], _ => rfl) (fun vs H Q E h => ?_) (fun f cdv A₀ outer s₀ H vs Q E hr h => ?_)
  · obtain ⟨_, _, rfl, _⟩ := h
    rfl
  · obtain ⟨a, cs, rfl, hR, ok, p3, q⟩ := h
    have l12 := ok.1
    have pos : ∀ r ∈ cs, 1 ≤ r.2 := fun r hr => (ok.2.1 r hr).2.1
    have okc : Okc cs := ⟨pos, ok.2.2⟩
    have P0 := prodM_pos cs
    refine ⟨_, (pss_cons (ps_set (i := 1) sc_ways_to.nd rfl (by first | exact Or.inl rfl | exact Or.inr rfl) (pe_callH G_steps_of (hr.mono (by omega)) (by rfl) (pa_cons (pv 0) pa_nil)))
    (pss_cons (ps_setLc (i := 2) (own := [("mark", 3)]) rfl sc_ways_to.nd rfl rfl (sw_true rfl rfl rfl (by decide +kernel)) (pi_range1 (by rfl) T.n_range (pa_cons (pe_callH G_product_of (hr.mono (by omega)) (by rfl) (pa_cons (pe_lc (own := [("kind", 5), ("count", 9)]) rfl sc_ways_to.nd (pi_list (pv 0)) (blkOk_by (N := ["counts", "steps", "ways", "mark", "reached", "kind", "after", "state", "orders", "count"]) (sc := defScope s_ways_to) (by decide +kernel)) (fun _ _ _ _ _ => (pg_tupK (K := K) (n := 2) rfl rfl (pgs_cons (pg_name (i := 5) sc_ways_to.nd rfl (by first | exact Or.inl rfl | exact Or.inr rfl)) (pgs_cons (pg_name (i := 9) sc_ways_to.nd rfl (by first | exact Or.inl rfl | exact Or.inr rfl)) pgs_nil)))) (fun _ _ _ _ _ => pts_nil) (fun _ _ _ _ _ => (pe_op op_add (pv 9) pe_int))) pa_nil)) pa_nil)) (blkOk_by (N := ["counts", "steps", "ways", "mark", "reached", "kind", "after", "state", "orders", "count"]) (sc := defScope s_ways_to) (by decide +kernel)) (fun _ _ _ _ _ => (pg_name (i := 3) sc_ways_to.nd rfl (by first | exact Or.inl rfl | exact Or.inr rfl))) (fun _ _ _ _ _ => pts_nil) (fun _ _ _ _ _ => (pe_dnewX (w := w) rfl)))
    (pss_cons (ps_expr (pe_callH G_add_orders (hr.mono (by omega)) (by rfl) (pa_cons (pe_ix ix_list (pv 2) pe_int (fun _ _ => rfl)) (pa_cons pe_non (pa_cons pe_int pa_nil)))))
    (pss_cons (ps_for PassesOwn.never rfl (pi_range1 (by rfl) T.n_range (pa_cons (pe_callB call_len_seq (by rfl) T.n_len (by decide +kernel) (pa_cons (pv 2) pa_nil)) pa_nil)) (pg_name (i := 3) sc_ways_to.nd rfl (by first | exact Or.inl rfl | exact Or.inr rfl))
      (pss_cons (ps_set (i := 4) sc_ways_to.nd rfl (by first | exact Or.inl rfl | exact Or.inr rfl) (pe_listItemsX (w := w) rfl (by rfl) (pe_ix ix_list (pv 2) (pv 3) (fun _ _ => rfl)) (by rfl) T.n_list (by decide +kernel)))
    (pss_one (ps_for PassesOwn.never rfl (pi_list (pe_callH G_arrivals_at (hr.mono (by omega)) (by rfl) (pa_cons (pv 1) (pa_cons (pv 3) pa_nil)))) (pg_tup rfl (pgs_cons (pg_name (i := 5) sc_ways_to.nd rfl (by first | exact Or.inl rfl | exact Or.inr rfl)) (pgs_cons (pg_name (i := 6) sc_ways_to.nd rfl (by first | exact Or.inl rfl | exact Or.inr rfl)) pgs_nil)))
      (pss_one (ps_for PassesOwn.never rfl (pi_list (pv 4)) (pg_tup rfl (pgs_cons (pg_name (i := 7) sc_ways_to.nd rfl (by first | exact Or.inl rfl | exact Or.inr rfl)) (pgs_cons (pg_name (i := 8) sc_ways_to.nd rfl (by first | exact Or.inl rfl | exact Or.inr rfl)) pgs_nil)))
      (pss_one (ps_expr (pe_callH G_add_orders (hr.mono (by omega)) (by rfl) (pa_cons (pe_ix ix_list (pv 2) (pv 6) (fun _ _ => rfl)) (pa_cons (pe_callH G_state_after_run (hr.mono (by omega)) (by rfl) (pa_cons (pv 7) (pa_cons (pv 5) (pa_cons pe_int pa_nil)))) (pa_cons (pv 8) pa_nil))))))))))))
    (pss_one (ps_ret (pv 2))))))), ?_⟩
    refine ⟨_, rfl, a, cs, rfl, hR, ok, p3, fun H1 S s1 nS stp => ?_⟩
    obtain ⟨xs, hx, hp⟩ := hR.same s1
    have lx : xs.length = cs.length := Paired.len hp
    refine ⟨_, rfl, a, rfl, ⟨xs, .of hx⟩, fun L0 nL0 => lc_list (K := K) (a := a) (xs := xs) (fun i H' => Same H1 H' ∧ H' L0 = some (.lst (((cs.map fun r => r.2.toNat + 1).take i).map natV))) ⟨same_upd nL0, upd_same⟩ (fun i H' _ p => .of (p.1 _ _ hx)) (fun i x H2 ex p => ?_) (fun H2 p => ?_)⟩
    · obtain ⟨sm, hL⟩ := p
      obtain ⟨r, er, t, rfl, ht⟩ := Paired.at hp ex
      have c1 := pos r (List.mem_of_getElem? er)
      have hi : i < xs.length := (List.getElem?_eq_some_iff.mp ex).1
      refine ⟨t, _, rfl, .of (sm _ _ ht), rfl, _, _, rfl, _, _, rfl, rfl, rfl, yesT ⟨_, rfl, _, _, rfl, rfl, _, hL, ?_, same_grow nL0 sm, ?_⟩⟩
      · simp only [List.length_map, List.length_take]
        exact small (by omega)
      · rw [upd_same, take_snoc (x := r.2.toNat + 1) (by rw [List.getElem?_map, er]; rfl), List.map_append]
        have e : ((r.2.toNat + 1 : Nat) : Int) = r.2 + 1 := by omega
        unfold natV
        rw [List.map_cons, e]
        rfl
    obtain ⟨sm2, hL0⟩ := p
    rw [List.take_of_length_le (by rw [List.length_map, lx]; exact Nat.le_refl _)] at hL0
    refine ⟨L0, _, rfl, hL0, (fun n hn => ?_), by rw [← prodM_eq]; exact p3, ?_⟩
    · obtain ⟨r, _, rfl⟩ := List.mem_map.mp hn
      omega
    rw [← prodM_eq]
    have sm3 := sm2
    clear hL0
    have eP : (((prodM cs : Nat) : Int)).toNat = prodM cs := Int.toNat_natCast _
    refine ⟨_, rfl, (by omega), (by omega), fun L nL => lc_range (lo := 0) (n := (((prodM cs : Nat) : Int)).toNat) (fun i H' => Same H2 H' ∧ ∃ ds : List Addr, H' L = some (.lst (ds.map V.ref)) ∧ ds.length = i ∧ ds.Nodup ∧ L ∉ ds ∧ (∀ d ∈ ds, H2 d = none) ∧ ∀ d ∈ ds, H' d = some (DX w d [])) ⟨same_upd nL, [], upd_same, rfl, List.nodup_nil, List.not_mem_nil, (fun d h => by cases h), fun d h => by cases h⟩ (fun i H' hi hP => ?_) (fun H3 hP => ?_)⟩
    · obtain ⟨sm, ds, hL, ld, nd, out, nw, dx⟩ := hP
      rw [eP] at hi
      refine ⟨rfl, yesT fun d nD => ?_⟩
      have sD := same_upd (o := DX w d []) nD
      have dL : d ≠ L := fun z => by rw [z, hL] at nD; cases nD
      have dn : d ∉ ds := fun z => by rw [dx d z] at nD; cases nD
      refine ⟨_, sD _ _ hL, small (by rw [List.length_map]; omega), same_grow nL (sm.trans sD), ds ++ [d], ?_, by rw [List.length_append, ld]; rfl, ?_, ?_, ?_, ?_⟩
      · rw [upd_same, List.map_append]
        rfl
      · refine List.nodup_append.mpr ⟨nd, List.nodup_cons.mpr ⟨List.not_mem_nil, List.nodup_nil⟩, fun x hx y hy => ?_⟩
        rw [List.mem_singleton.mp hy]
        exact fun z => dn (z ▸ hx)
      · intro z
        rcases List.mem_append.mp z with z | z
        · exact out z
        · exact dL (List.mem_singleton.mp z).symm
      · intro x hx
        rcases List.mem_append.mp hx with z | z
        · exact nw x z
        · rw [List.mem_singleton.mp z]
          exact sm.free nD
      · intro x hx
        rcases List.mem_append.mp hx with z | z
        · rw [upd_ne (fun e => out (by rw [← e]; exact z))]
          exact sD _ _ (dx x z)
        · rw [List.mem_singleton.mp z, upd_ne dL]
          exact upd_same
    obtain ⟨sm, ds, hL, ld, nd, out, nw, dx⟩ := hP
    rw [eP] at ld
    have W0 : WaysH w H3 L ds (List.replicate (prodM cs) []) := by
      refine ⟨hL, paired_ofX (by rw [List.length_replicate]; exact ld) fun j d f h1 h2 => ?_, nd, out⟩
      rw [(List.mem_replicate.mp (List.mem_of_getElem? h2)).2]
      exact ⟨[], ⟨dx d (List.mem_of_getElem? h1), fun r hr => by cases hr⟩, .nil⟩
    obtain ⟨d0, hd0⟩ : ∃ d0, ds[0]? = some d0 := ⟨_, List.getElem?_eq_getElem (by omega)⟩
    have hf0 : (List.replicate (prodM cs) ([] : DFn))[0]? = some [] := by rw [List.getElem?_replicate, if_pos P0]
    have wd0 : WDs w H3 d0 [] := by
      obtain ⟨f, e, r⟩ := Paired.at W0.dic hd0
      rw [hf0] at e
      cases e
      exact r
    have sA : Same H H3 := s1.trans (sm3.trans sm)
    have nLH : H L = none := (s1.trans sm3).free nL
    have nwH : ∀ d ∈ ds, H d = none := fun d hd => (s1.trans sm3).free (nw d hd)
    have stp3 : Stps H3 S (stepsM cs) := by
      obtain ⟨ys, h1, h2⟩ := stp
      exact ⟨ys, (sm3.trans sm) _ _ h1, Paired.imp (fun _ _ z => z.same (sm3.trans sm)) h2⟩
    refine ⟨_, rfl, L, _, 0, _, rfl, rfl, .of hL, atI_ofR (by omega) (by rw [show (0 : Int).toNat = 0 from rfl, List.getElem?_map, hd0]; rfl), d0, [], .non, none, 1, rfl, wd0, rfl, Nat.zero_le _, fun o new tp => ?_⟩
    obtain ⟨W1, k1⟩ := W0.put hd0 hf0 new tp
    have W1 : WaysH w (upd H3 d0 o) L ds (mainF cs 0) := W1
    have smB : Same H (upd H3 d0 o) := k1.same sA nwH
    have stpK : ∀ {Ha Hb : Hp}, Keep ds Ha Hb → Tups Ha Hb → S ∉ ds → Stps Ha S (stepsM cs) → Stps Hb S (stepsM cs) := fun k t ns z => by
      obtain ⟨ys, h1, h2⟩ := z
      refine ⟨ys, k _ _ ns h1, Paired.imp (fun x p z => ?_) h2⟩
      obtain ⟨b, rfl, hb⟩ := z
      exact ⟨b, rfl, t _ _ hb⟩
    have nS : S ∉ ds := fun z => by
      have h1 := nw S z
      obtain ⟨ys, h2, _⟩ := stp
      rw [sm2 _ _ h2] at h1
      cases h1
    have stpB := stpK k1 tp nS stp3
    obtain ⟨HB, eB⟩ : ∃ HB, upd H3 d0 o = HB := ⟨_, rfl⟩
    rw [eB] at W1 smB stpB ⊢
    clear eB k1 tp new wd0 hf0 W0 stp3 sA dx hL sm nL sm2 sm3
    have hLB := W1.lst
    have lF := W1.len
    have b0 := main_box cs 0 (Nat.zero_le _)
    refine ⟨_, rfl, L, _, rfl, .inl (.of hLB), _, rfl, (by rw [List.length_map]; omega), (by rw [List.length_map]; omega), for_range (lo := 0) (n := ((((ds.map V.ref).length : Nat) : Int)).toNat) (fun m σ H' => ∃ y3 y4 y5 y6 y7 y8 y9, σ = [some (.ref a), some (.ref S), some (.ref L), y3, y4, y5, y6, y7, y8, y9] ∧ Same H H' ∧ WaysH w H' L ds (mainF cs m) ∧ Stps H' S (stepsM cs)) ⟨_, _, _, _, _, _, _, rfl, smB, W1, stpB⟩ (fun m σ H4 hm hP => ?_) (fun σ H4 hP => ?_)⟩
    · obtain ⟨y3, y4, y5, y6, y7, y8, y9, rfl, sm4, W4, stp4⟩ := hP
      rw [Int.toNat_natCast, List.length_map, ld] at hm
      have bx := main_box cs m (Nat.le_of_lt hm)
      have lm : m < (mainF cs m).length := by rw [bx.len]; exact hm
      obtain ⟨d, hd, wd⟩ := W4.get lm
      have few := bx.few (by rw [List.length_map]; exact l12) p3 (List.getElem?_eq_getElem lm)
      have bxm := bx.box m _ (List.getElem?_eq_getElem lm)
      obtain ⟨f, ef⟩ : ∃ f, (mainF cs m)[m] = f := ⟨_, rfl⟩
      have eM : ((mainF cs m)[m]?).getD [] = f := by rw [List.getElem?_eq_getElem lm, ef]; rfl
      rw [ef] at wd few bxm
      obtain ⟨rows, dx, pr⟩ := wd
      have lr : rows.length = f.length := Paired.len pr
      refine ⟨_, rfl, _, rfl, L, _, (m : Int), _, rfl, (by rw [Int.zero_add]), .of W4.lst, atI_ofR (by omega) (by rw [Int.toNat_natCast, List.getElem?_map, hd]; rfl), d, rows, rfl, dx, Nat.le_of_lt (small (by omega)), fun H5 R ts s5 nR hR5 lts tt => ?_⟩
      have itm : Paired (ItmV H5) (ts.map V.ref) f := by
        refine paired_ofX (by rw [List.length_map, lts, lr]) fun j x p h1 h2 => ?_
        rw [List.getElem?_map] at h1
        cases e1 : ts[j]? with
        | none => rw [e1] at h1; cases h1
        | some t =>
          rw [e1] at h1
          obtain rfl : V.ref t = x := Option.some.inj h1
          have jl : j < rows.length := by rw [lr]; exact (List.getElem?_eq_some_iff.mp h2).1
          obtain ⟨p', e2, g1, g2⟩ := Paired.at pr (List.getElem?_eq_getElem jl)
          rw [h2] at e2
          cases e2
          have hk := (dx.keys _ (List.getElem_mem jl)).tell
          rw [g1] at hk
          have hT := tt j t _ e1 (List.getElem?_eq_getElem jl)
          rw [g2] at hT
          exact ⟨t, _, rfl, hT, (st_back hk).same s5⟩
      have W5 := W4.same s5
      have nRd : R ∉ ds := fun z => by
        obtain ⟨j, hj⟩ := List.getElem?_of_mem z
        obtain ⟨g, _, rw', D, _⟩ := Paired.at W4.dic hj
        rw [D.there] at nR
        cases nR
      have sm5 := sm4.trans s5
      have stp5 : Stps H5 S (stepsM cs) := stpK (Keep.of s5) (Tups.of s5) nS stp4
      refine ⟨_, rfl, _, rfl, S, cs, m, (by show [V.ref S, V.int (0 + (m : Int))] = [V.ref S, V.int (m : Int)]; rw [Int.zero_add]), stp5, ok, p3, by omega, fun H6 A s6 nA ⟨ax, hA, hap⟩ => ?_⟩
      have W6 := W5.same s6
      have nAd : A ∉ ds := fun z => by
        obtain ⟨j, hj⟩ := List.getElem?_of_mem z
        obtain ⟨g, _, rw', D, _⟩ := Paired.at W5.dic hj
        rw [D.there] at nA
        cases nA
      have itm6 : Paired (ItmV H6) (ts.map V.ref) f := Paired.imp (fun _ _ z => z.tups (Tups.of s6)) itm
      have hR6 := s6 _ _ hR5
      have sm6 := sm5.trans s6
      have stp6 : Stps H6 S (stepsM cs) := stpK (Keep.of s6) (Tups.of s6) nS stp5
      clear itm stp5 stpB stp4 W5 W4 hR5 hLB
      have la : ax.length = (arrM cs m).length := Paired.len hap
      refine ⟨A, rfl, ⟨ax, .of hA⟩, for_list (K := K) (a := A) (xs := ax) (fun i σ H' => ∃ y5 y6 y7 y8, σ = [some (.ref a), some (.ref S), some (.ref L), some (.int (0 + (m : Int))), some (.ref R), y5, y6, y7, y8, y9] ∧ Keep ds H6 H' ∧ WaysH w H' L ds (outF f (mainF cs m) ((arrM cs m).take i))) ⟨_, _, _, _, rfl, Keep.refl _ _, W6⟩ (fun i σ H' _ hP => ?_) (fun i x σ H7 ex hP => ?_) (fun σ H7 hP => ?_)⟩
      · obtain ⟨_, _, _, _, _, k7, _⟩ := hP
        exact .of (k7 _ _ nAd hA)
      · obtain ⟨y5, y6, y7, y8, rfl, k7, W7⟩ := hP
        obtain ⟨ar, ear, t, rfl, ht⟩ := Paired.at hap ex
        have tp7 := W6.tups k7
        obtain ⟨am1, am2, am3⟩ := arr_mem hm (List.mem_of_getElem? ear)
        obtain ⟨k, z⟩ := ar
        have bxi : BoxF (cs.map (·.1)) (prodM cs) (outF f (mainF cs m) ((arrM cs m).take i)) := BoxF.out (m := m) bxm _ (fun b hb => ⟨(arr_mem hm (List.mem_of_mem_take hb)).1, (arr_mem hm (List.mem_of_mem_take hb)).2.1⟩) bx
        obtain ⟨Fi, eFi⟩ : ∃ Fi, outF f (mainF cs m) ((arrM cs m).take i) = Fi := ⟨_, rfl⟩
        have eNx : outF f (mainF cs m) ((arrM cs m).take (i + 1)) = innF k z f Fi := by
          rw [take_snoc ear, outF_snoc, eFi]
        rw [eFi] at W7 bxi
        rw [eNx]
        refine ⟨t, _, rfl, .of (tp7 _ _ ht), rfl, _, _, rfl, _, _, rfl, rfl, ?_⟩
        refine ⟨_, rfl, R, rfl, ⟨_, .of (k7 _ _ nRd hR6)⟩, for_list (K := K) (a := R) (xs := ts.map V.ref) (fun j σ H' => ∃ y7 y8, σ = [some (.ref a), some (.ref S), some (.ref L), some (.int (0 + (m : Int))), some (.ref R), some (.str k), some (natV z), y7, y8, y9] ∧ Keep ds H6 H' ∧ WaysH w H' L ds (innF k z (f.take j) Fi)) ⟨_, _, rfl, k7, W7⟩ (fun j σ H' _ hP => ?_) (fun j x σ H8 ex2 hP => ?_) (fun σ H8 hP => ?_)⟩
        · obtain ⟨_, _, _, k8, _⟩ := hP
          exact .of (k8 _ _ nRd hR6)
        · obtain ⟨y7, y8, rfl, k8, W8⟩ := hP
          obtain ⟨p, ep, t2, v, rfl, ht2, hv⟩ := Paired.at itm6 ex2
          have tp8 := W6.tups k8
          have bxj : BoxF (cs.map (·.1)) (prodM cs) (innF k z (f.take j) Fi) := BoxF.inn am1 am2 _ (fun b hb => bxm b (List.mem_of_mem_take hb)) bxi
          have zl : z < (innF k z (f.take j) Fi).length := by rw [bxj.len]; exact am3
          obtain ⟨dz, hdz, wdz⟩ := W8.get zl
          have fewz := bxj.few (by rw [List.length_map]; exact l12) p3 (List.getElem?_eq_getElem zl)
          refine ⟨t2, _, rfl, .of (tp8 _ _ ht2), rfl, _, _, rfl, _, _, rfl, rfl, ?_⟩
          refine ⟨_, rfl, _, rfl, L, _, (z : Int), _, rfl, rfl, .of W8.lst, atI_ofR (by omega) (by rw [Int.toNat_natCast, List.getElem?_map, hdz]; rfl), ?_⟩
          refine ⟨_, rfl, _, rfl, v, p.1, k, 1, rfl, hv.tups tp8, by decide, fun H9 v9 s9 hv9 => ?_⟩
          have W9 := W8.same s9
          refine ⟨_, rfl, dz, _, v9, _, p.2, rfl, wdz.same s9, hv9, by omega, fun o new tp => ?_⟩
          obtain ⟨Wn, kn⟩ := W9.put hdz (List.getElem?_eq_getElem zl) new tp
          refine ⟨_, _, rfl, (k8.trans (Keep.of s9)).trans kn, ?_⟩
          rw [take_snoc ep, innF_snoc]
          exact Wn
        · obtain ⟨y7, y8, rfl, k8, W8⟩ := hP
          have lf : (ts.map V.ref).length = f.length := by rw [List.length_map, lts, lr]
          rw [lf, List.take_length] at W8
          exact ⟨_, _, _, _, rfl, k8, W8⟩
      · obtain ⟨y5, y6, y7, y8, rfl, k7, W7⟩ := hP
        rw [la, List.take_length] at W7
        have eS : outF f (mainF cs m) (arrM cs m) = mainF cs (m + 1) := by
          show _ = outF (((mainF cs m)[m]?).getD []) (mainF cs m) (arrM cs m)
          rw [eM]
        rw [eS] at W7
        exact ⟨_, _, _, _, _, _, _, rfl, k7.same sm6 nwH, W7, stpK k7 (W6.tups k7) nS stp6⟩
    · obtain ⟨y3, y4, y5, y6, y7, y8, y9, rfl, sm4, W4, stp4⟩ := hP
      rw [Int.toNat_natCast, List.length_map, ld] at W4
      exact ⟨_, rfl, q _ _ ds sm4 nLH nwH W4⟩
end
end UP

set_option Elab.async false
set_option linter.all false
set_option maxRecDepth 100000
set_option maxHeartbeats 4000000
set_option pp.maxSteps 700
namespace UP
open PySem PySem.Spec PyProof.Rows L2
theorem op_eqDK {X : Cx} {K : PySem.W.Frag} (h : X.K = K) (hu : X.A.units + 64 < cLine) : OpR X (compareOp .Eq) (rEqD K) := h ▸ op_eqD hu
/-- the keys of the dicts, mark by mark -/
def KeyL (H : Hp) (q : Addr) (ss : List (Option Run)) : Prop := ∃ xs, H q = some (.lst xs) ∧ Paired (StV H) xs ss
theorem KeyL.same {H H' : Hp} {q : Addr} {ss : List (Option Run)} (s : Same H H') (h : KeyL H q ss) : KeyL H' q ss := by
  obtain ⟨xs, h1, h2⟩ := h
  exact ⟨xs, s _ _ h1, Paired.imp (fun _ _ z => z.same s) h2⟩
theorem WDs.keys {w : World} {H : Hp} {d : Addr} {f : DFn} (h : WDs w H d f) : ∃ rows, DXs w H d rows ∧ Paired (fun (r : RowX) (p : Option Run × Nat) => r.1 = keyR p.1 ∧ r.2.2 = natV p.2) rows f ∧ Paired (StV H) (rows.map fun r => r.2.1) (f.map (·.1)) := by
  obtain ⟨rows, D, pr⟩ := h
  refine ⟨rows, D, pr, ?_⟩
  have kk := D.keys
  clear D
  induction pr with
  | nil => exact .nil
  | cons a tl ih =>
    refine .cons ?_ (ih fun r hr => kk r (List.mem_cons_of_mem _ hr))
    have := (kk _ (List.mem_cons_self ..)).tell
    rw [a.1] at this
    exact st_back this
theorem ixN_in {n i : Nat} (h : i < n) : ixN n (i : Int) = some i := by
  have := atI_ofR (l := List.range n) (i := (i : Int)) (x := i) (by omega) (by rw [Int.toNat_natCast, List.getElem?_range h])
  unfold atI at this
  rw [List.length_range] at this
  cases e : ixN n (i : Int) with
  | none => rw [e] at this; cases this
  | some j =>
    rw [e] at this
    have h2 : (List.range n)[j]? = some i := this
    obtain ⟨l, e2⟩ := List.getElem?_eq_some_iff.mp h2
    rw [List.getElem_range] at e2
    rw [e2]
theorem add_new : ∀ {f : DFn} {s : Option Run} {n : Nat}, s ∉ f.map (·.1) → addF f s n = f ++ [(s, n)]
  | [], _, _, _ => rfl
  | p :: t, s, n, h => by
    unfold addF
    rw [if_neg (fun z => h (by rw [← z]; exact List.mem_cons_self ..)), add_new fun z => h (List.mem_cons_of_mem _ z)]
    rfl
theorem key_new {F : DFn} {i : Nat} {p : Option Run × Nat} (e : F[i]? = some p) (nd : (F.map (·.1)).Nodup) : p.1 ∉ (F.take i).map (·.1) := by
  intro z
  rw [List.map_take] at z
  obtain ⟨j, hj⟩ := List.getElem?_of_mem z
  have ji : j < i := by
    have := (List.getElem?_eq_some_iff.mp hj).1
    rw [List.length_take] at this
    omega
  rw [List.getElem?_take, if_pos ji] at hj
  have ei : (F.map (·.1))[i]? = some p.1 := by rw [List.getElem?_map, e]; rfl
  obtain ⟨l1, e1⟩ := List.getElem?_eq_some_iff.mp hj
  obtain ⟨l2, e2⟩ := List.getElem?_eq_some_iff.mp ei
  have := (List.getElem_inj nd).mp (e1.trans e2.symm)
  omega
theorem WDs.new {w : World} {H : Hp} {d : Addr} {F : DFn} {i : Nat} {p : Option Run × Nat} {v : V} (h : WDs w H d (F.take i)) (e : F[i]? = some p) (nd : (F.map (·.1)).Nodup) (hv : StV H v p.1) :
    ∃ rows, DXs w H d rows ∧ KeyIn H (keyR p.1) v ∧ rows.length ≤ F.length ∧ WDs w (upd H d (DX w d (putX rows (keyR p.1) v (natV p.2)))) d (F.take (i + 1)) ∧ Tups H (upd H d (DX w d (putX rows (keyR p.1) v (natV p.2)))) := by
  obtain ⟨rows, D, pr⟩ := h
  have kn := key_new e nd
  have pp := wd_put p.1 p.2 v pr
  rw [get_none kn, Nat.zero_add, add_new kn] at pp
  have lr : rows.length = (F.take i).length := Paired.len pr
  refine ⟨rows, D, key_st hv, by rw [lr, List.length_take]; omega, ⟨_, D.put (key_st hv), ?_⟩, Tups.put (noTup_dx D.there)⟩
  rw [take_snoc e]
  exact pp
theorem at_ok {cs : List Run} (ok : CtOk cs) {m : Nat} (hm : m < prodM cs) {s : Option Run} (hs : s ∈ (atF cs m).map (·.1)) : StOk s := by
  have okc : Okc cs := ⟨fun r hr => (ok.2.1 r hr).2.1, ok.2.2⟩
  rw [at_key okc hm] at hs
  intro r e
  subst e
  obtain ⟨x, hx, ex⟩ := List.mem_map.mp (ends_kind (cnt_ok okc m) hs)
  obtain ⟨h1, _⟩ := posR_mem.mp hx
  obtain ⟨p, hp, rfl⟩ := List.mem_map.mp h1
  obtain ⟨i, hi⟩ := List.getElem?_of_mem hp
  have ex : p.1.1 = r.1 := ex
  exact ⟨ex ▸ (ok.2.1 p.1 (List.mem_of_getElem? (stepsM_at hi))).1, ((ends_can (cnt_ok okc m) _).mp hs).1 r rfl⟩
theorem wd_some {rows : List RowX} {f : DFn} {s : Option Run} (h : Paired (fun (r : RowX) (p : Option Run × Nat) => r.1 = keyR p.1 ∧ r.2.2 = natV p.2) rows f) (hs : s ∈ f.map (·.1)) : valX rows (keyR s) = some (natV (getF f s)) := by
  induction h with
  | nil => cases hs
  | cons a tl ih =>
    rename_i r p rs t
    rw [valX_cons]
    show _ = some (natV (if p.1 = s then p.2 else getF t s))
    by_cases c : p.1 = s
    · rw [if_pos (by rw [a.1, c]), if_pos c, a.2]
    · rw [if_neg (fun z => c (keyR_inj (a.1.symm.trans z))), if_neg c]
      refine ih ?_
      rcases List.mem_cons.mp hs with e | e
      · exact absurd e.symm c
      · exact e
theorem put_set {F : List DFn} {D : DFn} {m i : Nat} {p : Option Run × Nat} (hm : m < F.length) (e : D[i]? = some p) (nd : (D.map (·.1)).Nodup) : putF (F.set m (D.take i)) m p.1 p.2 = F.set m (D.take (i + 1)) := by
  refine List.ext_getElem? fun n => ?_
  rw [put_at]
  by_cases c : m = n
  · subst c
    rw [if_pos rfl, List.getElem?_set_self hm, List.getElem?_set_self hm, Option.map_some, add_new (key_new e nd), take_snoc e]
  · rw [if_neg c, List.getElem?_set_ne c, List.getElem?_set_ne c]
theorem sum_natX : ∀ l : List Nat, (l.map fun n : Nat => (n : Int)).sum = ((l.sum : Nat) : Int)
  | [] => rfl
  | n :: t => by rw [List.map_cons, List.sum_cons, sum_natX t, List.sum_cons, Int.natCast_add]
theorem dcx_list {w : World} {K : PySem.W.Frag} {a : Addr} {xs : List V} {g : TG} {tt : TT} {tk tv : TE} {vs : List Nat} {σ : L2.St} {Ha : Hp} {D : Addr} {Qd : Hp → Prop} (Pv : Nat → Hp → Prop) (h0 : Pv 0 (upd Ha D (DX w D []))) (hl : ∀ i H, i ≤ xs.length → Pv i H → SqL K H a xs)
    (hs : ∀ i x Hc, xs[i]? = some x → Pv i Hc → g x (wipe σ vs) Hc fun τ Hd => wipe τ vs = wipe σ vs ∧ tt τ Hd fun b He =>
      if b = true then tk τ He fun y Hf => tv τ Hf fun z Hg => ∃ rows k, DXs w Hg D rows ∧ KeyIn Hg k y ∧ rows.length ≤ sizeLine ∧ Pv (i + 1) (upd Hg D (DX w D (putX rows k y z))) else Pv (i + 1) He) (hd : ∀ H, Pv xs.length H → Qd H) :
    ∃ Z : Nat → Nat → Hp → Prop, (∃ m, Z 0 m (upd Ha D (DX w D []))) ∧ ∀ i m Hb, Z i m Hb →
      ((Itl K a).stop i Hb ∧ Qd Hb) ∨ ((Itl K a).go i Hb ∧ ∃ Then : Hp → Prop, (∀ Hc, Then Hc → ∃ n, n < m ∧ Z (i + 1) n Hc) ∧ ∀ x Hc, (Itl K a).yld i Hb x Hc → g x (wipe σ vs) Hc fun τ Hd => wipe τ vs = wipe σ vs ∧ tt τ Hd fun b He =>
        if b = true then tk τ He fun y Hf => tv τ Hf fun z Hg => ∃ rows k, DXs w Hg D rows ∧ KeyIn Hg k y ∧ rows.length ≤ sizeLine ∧ Then (upd Hg D (DX w D (putX rows k y z))) else Then He) := by
  refine ⟨fun i m G => m + i = xs.length ∧ Pv i G, ⟨xs.length, rfl, h0⟩, fun i m G hz => ?_⟩
  obtain ⟨e, pv⟩ := hz
  have sq := hl i G (by omega) pv
  cases m with
  | zero =>
    have : i = xs.length := by omega
    subst this
    exact .inl ⟨⟨xs, sq, Nat.le_refl _⟩, hd G pv⟩
  | succ m =>
    have lt : i < xs.length := by omega
    refine .inr ⟨⟨xs, xs[i], sq, List.getElem?_eq_getElem lt⟩, Pv (i + 1), fun Hc p => ⟨m, Nat.lt_succ_self m, by omega, p⟩, fun x Hc y => ?_⟩
    obtain ⟨rfl, y⟩ := y
    exact hs i x _ (y xs sq) pv
def restP (cs : List Run) (g : Option Run) (j : Nat) : List DFn := (List.range (prodM cs)).map fun m => if prodM cs ≤ m + 1 + j then restD cs g m else []
theorem restP_get {cs : List Run} {g : Option Run} {j m : Nat} (hm : m < prodM cs) : (restP cs g j)[m]? = some (if prodM cs ≤ m + 1 + j then restD cs g m else []) := by
  unfold restP
  rw [List.getElem?_map, List.getElem?_range hm]
  rfl
theorem restP_len (cs : List Run) (g : Option Run) (j : Nat) : (restP cs g j).length = prodM cs := by
  unfold restP
  rw [List.length_map, List.length_range]
theorem restP_next {cs : List Run} {g : Option Run} {j m : Nat} (e : m + 2 + j = prodM cs) : (restP cs g j).set m (restD cs g m) = restP cs g (j + 1) := by
  refine List.ext_getElem? fun n => ?_
  have hm : m < prodM cs := by omega
  by_cases c : n = m
  · subst c
    rw [List.getElem?_set_self (by rw [restP_len]; exact hm), restP_get hm, if_pos (by omega)]
  · rw [List.getElem?_set_ne (fun z => c z.symm)]
    by_cases l : n < prodM cs
    · rw [restP_get l, restP_get l]
      congr 1
      by_cases d : prodM cs ≤ n + 1 + j
      · rw [if_pos d, if_pos (by omega)]
      · rw [if_neg d, if_neg (by omega)]
    · rw [List.getElem?_eq_none (by rw [restP_len]; omega), List.getElem?_eq_none (by rw [restP_len]; omega)]
theorem restP_same {cs : List Run} {g : Option Run} {j m : Nat} (e : m + 2 + j = prodM cs) : (restP cs g j).set m [] = restP cs g j := by
  refine List.ext_getElem? fun n => ?_
  by_cases c : m = n
  · subst c
    rw [List.getElem?_set_self (by rw [restP_len]; omega), restP_get (by omega), if_neg (by omega)]
  · rw [List.getElem?_set_ne c]
theorem restP_all (cs : List Run) (g : Option Run) (h : 0 < prodM cs) : restP cs g (prodM cs - 1) = restF cs g := by
  unfold restP restF
  refine List.map_congr_left fun m hm => ?_
  have := List.mem_range.mp hm
  rw [if_pos (by omega)]
section
variable {P : Program} {w : World} {K : PySem.W.Frag} {mg : Str → Option Value} {base : Heap}
/-! ways_from: slots 0:counts 1:state 2:steps 3:reached 4:last 5:rest 6:mark 7:start 8:ways 9:end 10:kind 11:after -/
abbrev s_ways_from : Stmt := topS 45
theorem sc_ways_from : FnScope ["counts", "state", "steps", "reached", "last", "rest", "mark", "start", "ways", "end", "kind", "after"] ["counts", "state"] (defScope s_ways_from) := ⟨rfl, rfl, rfl, by decide +kernel, rfl, by decide +kernel, by decide +kernel⟩
def sp_ways_from (w : World) : Sp := fun vs H Q _ => ∃ (a : Addr) (v : V) (cs : List Run) (g : Option Run), vs = [.ref a, v] ∧ Runs H a cs ∧ CtOk cs ∧ prodM cs ≤ 3000 ∧ StV H v g ∧ StOk g ∧ ∀ H' L rs, Same H H' → H L = none → (∀ d ∈ rs, H d = none) → WaysH w H' L rs (restF cs g) → Q (.ref L) H'
theorem ok_ways_from (D : Df K mg "ways_from" s_ways_from) (T : Tx mg) (G_steps_of : Has P w K mg base 1 "steps_of" ["counts"] sp_steps_of) (G_ways_to : Has P w K mg base 3 "ways_to" ["counts"] (sp_ways_to w))
    (G_arrivals_at : Has P w K mg base 1 "arrivals_at" ["steps", "mark"] sp_arrivals_at) (G_state_after_run : Has P w K mg base 2 "state_after_run" ["state", "kind", "count"] sp_state_after_run) : Has P w K mg base 4 "ways_from" ["counts", "state"] (sp_ways_from w) := by
  refine has_of D sc_ways_from (fun _ _ _ _ _ _ us hl => match us, hl with | [_, _], _ => rfl) (fun vs H Q E h => ?_) (fun f cdv A₀ outer s₀ H vs Q E hr h => ?_)
  · obtain ⟨_, _, _, _, rfl, _⟩ := h
    rfl
  · obtain ⟨a, v, cs, g, rfl, hR, ok, p3, hv, so, q⟩ := h
    have l12 := ok.1
    have okc : Okc cs := ⟨fun r hr => (ok.2.1 r hr).2.1, ok.2.2⟩
    have P0 := prodM_pos cs
    refine ⟨_, (pss_cons (ps_set (i := 2) sc_ways_from.nd rfl (by first | exact Or.inl rfl | exact Or.inr rfl) (pe_callH G_steps_of (hr.mono (by omega)) (by rfl) (pa_cons (pv 0) pa_nil)))
    (pss_cons (ps_setLc (i := 3) (own := [("ways", 8)]) rfl sc_ways_from.nd rfl rfl (sw_true rfl rfl rfl (by decide +kernel)) (pi_list (pe_callH G_ways_to (hr.mono (by omega)) (by rfl) (pa_cons (pv 0) pa_nil))) (blkOk_by (N := ["counts", "state", "steps", "reached", "last", "rest", "mark", "start", "ways", "end", "kind", "after"]) (sc := defScope s_ways_from) (by decide +kernel)) (fun _ _ _ _ _ => (pg_name (i := 8) sc_ways_from.nd rfl (by first | exact Or.inl rfl | exact Or.inr rfl))) (fun _ _ _ _ _ => pts_nil) (fun _ _ _ _ _ => (pe_callTy (call_listX (w := w) rfl rfl) (by rfl) T.n_list (by decide +kernel) (pa_cons (pv 8) pa_nil))))
    (pss_cons (ps_set (i := 4) sc_ways_from.nd rfl (by first | exact Or.inl rfl | exact Or.inr rfl) (pe_op op_sub (pe_callB call_len_seq (by rfl) T.n_len (by decide +kernel) (pa_cons (pv 3) pa_nil)) pe_int))
    (pss_cons (ps_set (i := 5) sc_ways_from.nd rfl (by first | exact Or.inl rfl | exact Or.inr rfl) (pe_lc (own := [("mark", 6)]) rfl sc_ways_from.nd (pi_range1 (by rfl) T.n_range (pa_cons (pe_callB call_len_seq (by rfl) T.n_len (by decide +kernel) (pa_cons (pv 3) pa_nil)) pa_nil)) (blkOk_by (N := ["counts", "state", "steps", "reached", "last", "rest", "mark", "start", "ways", "end", "kind", "after"]) (sc := defScope s_ways_from) (by decide +kernel)) (fun _ _ _ _ _ => (pg_name (i := 6) sc_ways_from.nd rfl (by first | exact Or.inl rfl | exact Or.inr rfl))) (fun _ _ _ _ _ => pts_nil) (fun _ _ _ _ _ => (pe_dnewX (w := w) rfl))))
    (pss_cons (ps_asg (pe_dcX (own := [("end", 9)]) (w := w) rfl (room65 hr) rfl sc_ways_from.nd (pi_list (pe_ix ix_list (pv 3) (pv 4) (fun _ _ => rfl))) (blkOk_by (N := ["counts", "state", "steps", "reached", "last", "rest", "mark", "start", "ways", "end", "kind", "after"]) (sc := defScope s_ways_from) (by decide +kernel)) (fun _ _ _ _ _ => (pg_name (i := 9) sc_ways_from.nd rfl (by first | exact Or.inl rfl | exact Or.inr rfl))) (fun _ _ _ _ _ => pts_nil) (fun _ _ _ _ _ => (pv 9)) (fun _ _ _ _ _ => (pe_ifExp (pt_cmpR (op_eqDK (K := K) rfl hr.units) (pv 9) (pv 1) (nomark _)) pe_int pe_int))) (pg_sub (pv 5) (pv 4) set_list))
    (pss_cons (ps_for PassesOwn.never rfl (pi_revR (by rfl) T.n_reversed (prg_1 (by rfl) T.n_range (pv 4))) (pg_name (i := 6) sc_ways_from.nd rfl (by first | exact Or.inl rfl | exact Or.inr rfl))
      (pss_one (ps_for PassesOwn.never rfl (pi_list (pe_ix ix_list (pv 3) (pv 6) (fun _ _ => rfl))) (pg_name (i := 7) sc_ways_from.nd rfl (by first | exact Or.inl rfl | exact Or.inr rfl))
      (pss_one (ps_dputX (w := w) rfl (room65 hr) (pe_ix ix_list (pv 5) (pv 6) (fun _ _ => rfl)) (pv 7) (pe_callB (cr_sum rfl) (by rfl) T.n_sum (by decide +kernel) (pa_cons (pe_lc (own := [("kind", 10), ("after", 11)]) rfl sc_ways_from.nd (pi_list (pe_callH G_arrivals_at (hr.mono (by omega)) (by rfl) (pa_cons (pv 2) (pa_cons (pv 6) pa_nil)))) (blkOk_by (N := ["counts", "state", "steps", "reached", "last", "rest", "mark", "start", "ways", "end", "kind", "after"]) (sc := defScope s_ways_from) (by decide +kernel)) (fun _ _ _ _ _ => (pg_tupK (K := K) (n := 2) rfl rfl (pgs_cons (pg_name (i := 10) sc_ways_from.nd rfl (by first | exact Or.inl rfl | exact Or.inr rfl)) (pgs_cons (pg_name (i := 11) sc_ways_from.nd rfl (by first | exact Or.inl rfl | exact Or.inr rfl)) pgs_nil)))) (fun _ _ _ _ _ => pts_nil) (fun _ _ _ _ _ => (pe_dgetX (w := w) rfl (room65 hr) (pe_ix (ix_listK (K := K) rfl) (pv 5) (pv 11) (fun _ _ => rfl)) (pe_callH G_state_after_run (hr.mono (by omega)) (by rfl) (pa_cons (pv 7) (pa_cons (pv 10) (pa_cons pe_int pa_nil)))) (fun _ _ => rfl)))) pa_nil)) rfl)))))
    (pss_one (ps_ret (pv 5))))))))), ?_⟩
    refine ⟨_, rfl, a, cs, rfl, hR, ok, p3, fun H1 S s1 nS stp => ?_⟩
    refine ⟨_, rfl, a, cs, rfl, hR.same s1, ok, p3, fun H2 W ds s2 nW nds Wy => ?_⟩
    have ld : ds.length = prodM cs := by rw [Wy.len]; exact (main_box cs _ (Nat.le_refl _)).len
    have stp2 : Stps H2 S (stepsM cs) := by
      obtain ⟨ys, h1, h2⟩ := stp
      exact ⟨ys, s2 _ _ h1, Paired.imp (fun _ _ z => z.same s2) h2⟩
    refine ⟨W, rfl, ⟨_, .of Wy.lst⟩, fun M nM => lc_list (K := K) (a := W) (xs := ds.map V.ref) (fun i H' => Same H2 H' ∧ ∃ qs : List Addr, H' M = some (.lst (qs.map V.ref)) ∧ qs.length = i ∧ (∀ q ∈ qs, q ≠ M) ∧ ∀ (j : Nat) (q : Addr), qs[j]? = some q → KeyL H' q ((atF cs j).map (·.1))) ⟨same_upd nM, [], upd_same, rfl, (fun q h => by cases h), fun j q h => by cases h⟩ (fun i H' _ p => .of (p.1 _ _ Wy.lst)) (fun i x H3 ex hP => ?_) (fun H3 hP => ?_)⟩
    · obtain ⟨s3, qs, hM, lq, nq, kq⟩ := hP
      rw [List.getElem?_map] at ex
      cases e1 : ds[i]? with
      | none => rw [e1] at ex; cases ex
      | some d =>
        rw [e1] at ex
        obtain rfl : V.ref d = x := Option.some.inj ex
        have il : i < prodM cs := by rw [← ld]; exact (List.getElem?_eq_some_iff.mp e1).1
        obtain ⟨f1, e2, wd⟩ := Paired.at Wy.dic e1
        have e3 : f1 = atF cs i := by
          rw [at_get il] at e2
          exact (Option.some.inj e2).symm
        subst e3
        have few := (main_box cs _ (Nat.le_refl _)).few (by rw [List.length_map]; exact l12) p3 (at_get il)
        obtain ⟨rows, DX0, pr, kk⟩ := (wd.same s3).keys
        have lr : rows.length = (atF cs i).length := Paired.len pr
        refine ⟨rfl, yesT ⟨_, rfl, d, rows, rfl, DX0, Nat.le_of_lt (small (by omega)), fun l nl => ⟨_, same_upd nl _ _ hM, small (by rw [List.length_map]; omega), same_grow nM (s3.trans (same_upd nl)), qs ++ [l], ?_, by rw [List.length_append, lq]; rfl, ?_, ?_⟩⟩⟩
        · rw [upd_same, List.map_append]
          rfl
        · intro q hq
          rcases List.mem_append.mp hq with z | z
          · exact nq q z
          · rw [List.mem_singleton.mp z]
            intro z2
            rw [z2, hM] at nl
            cases nl
        · intro j q hj
          have tp : Tups H3 (upd (upd H3 l (.lst (rows.map fun r => r.2.1))) M (.lst (qs.map V.ref ++ [.ref l]))) := (Tups.of (same_upd nl)).trans (Tups.put (noTup_lst (same_upd nl _ _ hM)))
          rcases Nat.lt_or_ge j qs.length with lt | ge
          · rw [List.getElem?_append_left lt] at hj
            obtain ⟨xs, h1, h2⟩ := kq j q hj
            exact ⟨xs, by rw [upd_ne (nq q (List.mem_of_getElem? hj))]; exact same_upd nl _ _ h1, Paired.imp (fun _ _ z => z.tups tp) h2⟩
          · rw [List.getElem?_append_right ge] at hj
            have j0 : j - qs.length = 0 := by
              have := (List.getElem?_eq_some_iff.mp hj).1
              rw [List.length_singleton] at this
              omega
            rw [j0] at hj
            obtain rfl : l = q := Option.some.inj hj
            have ji : j = i := by omega
            rw [ji]
            have lM : l ≠ M := fun z2 => by rw [z2, hM] at nl; cases nl
            exact ⟨_, by rw [upd_ne lM]; exact upd_same, Paired.imp (fun _ _ z => z.tups tp) kk⟩
    obtain ⟨s3, qs, hM, lq, nq, kq⟩ := hP
    rw [List.length_map, ld] at lq
    refine ⟨_, rfl, M, _, rfl, .inl (.of hM), _, _, rfl, rfl, ?_⟩
    have nMH : H M = none := (s1.trans s2).free nM
    have sH3 : Same H H3 := s1.trans (s2.trans s3)
    refine ⟨_, rfl, M, _, rfl, .inl (.of hM), _, rfl, (by rw [List.length_map]; omega), (by rw [List.length_map]; omega), fun R nR => lc_range (lo := 0) (n := ((((qs.map V.ref).length : Nat) : Int)).toNat) (fun i H' => Same H3 H' ∧ ∃ rs : List Addr, H' R = some (.lst (rs.map V.ref)) ∧ rs.length = i ∧ rs.Nodup ∧ R ∉ rs ∧ (∀ d ∈ rs, H3 d = none) ∧ ∀ d ∈ rs, H' d = some (DX w d [])) ⟨same_upd nR, [], upd_same, rfl, List.nodup_nil, List.not_mem_nil, (fun d h => by cases h), fun d h => by cases h⟩ (fun i H' hi hP => ?_) (fun H4 hP => ?_)⟩
    · obtain ⟨sm, rs, hL, lrs, nd, out, nw, dx⟩ := hP
      rw [Int.toNat_natCast, List.length_map] at hi
      refine ⟨rfl, yesT fun d nD => ?_⟩
      have sD := same_upd (o := DX w d []) nD
      have dL : d ≠ R := fun z => by rw [z, hL] at nD; cases nD
      have dn : d ∉ rs := fun z => by rw [dx d z] at nD; cases nD
      refine ⟨_, sD _ _ hL, small (by rw [List.length_map]; omega), same_grow nR (sm.trans sD), rs ++ [d], ?_, by rw [List.length_append, lrs]; rfl, ?_, ?_, ?_, ?_⟩
      · rw [upd_same, List.map_append]
        rfl
      · refine List.nodup_append.mpr ⟨nd, List.nodup_cons.mpr ⟨List.not_mem_nil, List.nodup_nil⟩, fun x hx y hy => ?_⟩
        rw [List.mem_singleton.mp hy]
        exact fun z => dn (z ▸ hx)
      · intro z
        rcases List.mem_append.mp z with z | z
        · exact out z
        · exact dL (List.mem_singleton.mp z).symm
      · intro x hx
        rcases List.mem_append.mp hx with z | z
        · exact nw x z
        · rw [List.mem_singleton.mp z]
          exact sm.free nD
      · intro x hx
        rcases List.mem_append.mp hx with z | z
        · rw [upd_ne (fun e => out (by rw [← e]; exact z))]
          exact sD _ _ (dx x z)
        · rw [List.mem_singleton.mp z, upd_ne dL]
          exact upd_same
    obtain ⟨sm4, rs, hRl, lrs, nd, out, nw, dx⟩ := hP
    rw [Int.toNat_natCast, List.length_map, lq] at lrs
    -- the last mark
    have sH4 := sH3.trans sm4
    have hM4 := sm4 _ _ hM
    have hlast : prodM cs - 1 < prodM cs := by omega
    obtain ⟨ql, eql⟩ : ∃ q, qs[prodM cs - 1]? = some q := ⟨_, List.getElem?_eq_getElem (by omega)⟩
    obtain ⟨kx, hkx, kpx⟩ := (kq _ _ eql).same sm4
    have elast : (((qs.map V.ref).length : Nat) : Int) - 1 = ((prodM cs - 1 : Nat) : Int) := by
      rw [List.length_map, lq]
      omega
    refine ⟨_, rfl, _, rfl, M, _, _, V.ref ql, rfl, rfl, .of hM4, atI_ofR (by rw [elast]; omega) (by rw [elast, Int.toNat_natCast, List.getElem?_map, eql]; rfl), ql, rfl, ⟨kx, .of hkx⟩, fun Dd nDd => dcx_list (w := w) (K := K) (a := ql) (xs := kx) (fun i H' => Same H4 H' ∧ WDs w H' Dd ((restD cs g (prodM cs - 1)).take i)) ⟨same_upd nDd, [], ⟨upd_same, fun r h => by cases h⟩, .nil⟩ (fun i H' _ p => .of (p.1 _ _ hkx)) (fun i x H5 ex hP => ?_) (fun H5 hP => ?_)⟩
    · obtain ⟨s5, wd5⟩ := hP
      obtain ⟨st, est, hst⟩ := Paired.at kpx ex
      have hst5 := hst.same s5
      have eD : (restD cs g (prodM cs - 1))[i]? = some (st, restN cs (prodM cs - 1) st g) := by
        unfold restD
        rw [List.getElem?_map] at est ⊢
        cases h : (atF cs (prodM cs - 1))[i]? with
        | none => rw [h] at est; cases est
        | some p =>
          rw [h] at est
          obtain rfl : p.1 = st := Option.some.inj est
          rfl
      have ndl : ((restD cs g (prodM cs - 1)).map (·.1)).Nodup := by rw [restD_keys]; exact at_once hlast
      have fewl := (main_box cs _ (Nat.le_refl _)).few (by rw [List.length_map]; exact l12) p3 (at_get hlast)
      have lD : (restD cs g (prodM cs - 1)).length = (atF cs (prodM cs - 1)).length := List.length_map ..
      obtain ⟨rows, DX0, KK, lrow, wn, _⟩ := wd5.new eD ndl hst5
      have sto := at_ok ok hlast (List.mem_of_getElem? est)
      rw [rest_last okc] at wn
      refine ⟨rfl, yesT ⟨_, rfl, _, rfl, _, rfl, dOt st, dOt g, dp_o hst5, dp_o (hv.same (sH4.trans s5)), shaped_o sto, shaped_o so, ?_⟩⟩
      rw [eqv_o]
      refine ⟨_, rfl, ite2 (fun c => ?_) (fun c => ?_)⟩
      · have c := of_decide_eq_true c
        rw [if_pos c] at wn
        exact ⟨rows, _, DX0, KK, Nat.le_of_lt (small (by omega)), same_grow nDd s5, wn⟩
      · have c : ¬ st = g := fun z => c (decide_eq_true z)
        rw [if_neg c] at wn
        exact ⟨rows, _, DX0, KK, Nat.le_of_lt (small (by omega)), same_grow nDd s5, wn⟩
    obtain ⟨s5, wd5⟩ := hP
    rw [List.take_of_length_le (by rw [Paired.len kpx, List.length_map]; unfold restD; rw [List.length_map]; exact Nat.le_refl _)] at wd5
    have dR : Dd ≠ R := fun z => by rw [z, hRl] at nDd; cases nDd
    have dn : Dd ∉ rs := fun z => by rw [dx Dd z] at nDd; cases nDd
    refine ⟨_, rfl, _, rfl, R, _, _, prodM cs - 1, rfl, rfl, s5 _ _ hRl, (by rw [elast]; exact ixN_in (by rw [List.length_map]; omega)), ?_⟩
    have eset : (rs.map V.ref).set (prodM cs - 1) (.ref Dd) = (rs.set (prodM cs - 1) Dd).map V.ref := (List.map_set ..).symm
    rw [eset]
    obtain ⟨rs', ers⟩ : ∃ rs', rs.set (prodM cs - 1) Dd = rs' := ⟨_, rfl⟩
    rw [ers]
    have mem' : ∀ d ∈ rs', d ∈ rs ∨ d = Dd := fun d hd => by
      rw [← ers] at hd
      exact List.mem_or_eq_of_mem_set hd
    have tp6 : Tups H5 (upd H5 R (.lst (rs'.map V.ref))) := Tups.put (noTup_lst (s5 _ _ hRl))
    have WR : WaysH w (upd H5 R (.lst (rs'.map V.ref))) R rs' (restP cs g 0) := by
      refine ⟨upd_same, paired_ofX (by rw [← ers, List.length_set, restP_len, lrs]) fun j d f h1 h2 => ?_, ?_, fun z => (mem' R z).elim out fun e => dR e.symm⟩
      · have jl : j < prodM cs := by
          have := (List.getElem?_eq_some_iff.mp h2).1
          rw [restP_len] at this
          exact this
        rw [restP_get jl] at h2
        obtain rfl := Option.some.inj h2
        rw [← ers] at h1
        by_cases c : j = prodM cs - 1
        · subst c
          rw [List.getElem?_set_self (by omega)] at h1
          obtain rfl := Option.some.inj h1
          rw [if_pos (by omega)]
          exact wd5.off dR tp6
        · rw [List.getElem?_set_ne (fun z => c z.symm)] at h1
          rw [if_neg (by omega)]
          have dm := List.mem_of_getElem? h1
          have w0 : WDs w H5 d [] := ⟨[], ⟨s5 _ _ (dx d dm), fun r h => by cases h⟩, .nil⟩
          exact w0.off (fun z => out (by rw [← z]; exact dm)) tp6
      · rw [← ers]
        refine List.pairwise_iff_getElem.mpr fun i j hi hj lt => ?_
        rw [List.getElem_set, List.getElem_set]
        have hi' : i < rs.length := by rw [List.length_set] at hi; exact hi
        have hj' : j < rs.length := by rw [List.length_set] at hj; exact hj
        by_cases c1 : prodM cs - 1 = i
        · rw [if_pos c1, if_neg (by omega)]
          exact fun z => dn (by rw [z]; exact List.getElem_mem hj')
        · rw [if_neg c1]
          by_cases c2 : prodM cs - 1 = j
          · rw [if_pos c2]
            exact fun z => dn (by rw [← z]; exact List.getElem_mem hi')
          · rw [if_neg c2]
            exact fun z => absurd ((List.getElem_inj nd).mp z) (by omega)
    -- what stays
    have new' : ∀ d ∈ rs', H d = none := fun d hd => by
      rcases mem' d hd with z | z
      · exact sH3.free (nw d z)
      · rw [z]
        exact sH4.free nDd
    have sm6 : Same H4 (upd H5 R (.lst (rs'.map V.ref))) ∨ True := .inr trivial
    have nRH : H R = none := sH3.free nR
    have sH6 : Same H (upd H5 R (.lst (rs'.map V.ref))) := same_grow nRH (sH4.trans s5)
    have oldR : ∀ b o, H3 b = some o → b ≠ R := fun b o e z => by rw [z, nR] at e; cases e
    have in6 : ∀ b o, H3 b = some o → (upd H5 R (.lst (rs'.map V.ref))) b = some o := fun b o e => by
      rw [upd_ne (oldR b o e)]
      exact s5 _ _ (sm4 _ _ e)
    have out3 : ∀ b o, H3 b = some o → b ∉ rs' := fun b o e z => by
      rcases mem' b z with y | y
      · rw [nw b y] at e
        cases e
      · have := sm4 _ _ e
        rw [y, nDd] at this
        cases this
    have tp36 : Tups H3 (upd H5 R (.lst (rs'.map V.ref))) := fun b xs e => in6 b _ e
    have kq6 : ∀ (j : Nat) (q : Addr), qs[j]? = some q → KeyL (upd H5 R (.lst (rs'.map V.ref))) q ((atF cs j).map (·.1)) ∧ q ∉ rs' := fun j q hj => by
      obtain ⟨xs, h1, h2⟩ := kq j q hj
      exact ⟨⟨xs, in6 _ _ h1, Paired.imp (fun _ _ z => z.tups tp36) h2⟩, out3 _ _ h1⟩
    have hM6 := in6 _ _ hM
    have nM6 := out3 _ _ hM
    have stp3 : Stps H3 S (stepsM cs) := by
      obtain ⟨ys, h1, h2⟩ := stp2
      exact ⟨ys, s3 _ _ h1, Paired.imp (fun _ _ z => z.same s3) h2⟩
    have nS6 : S ∉ rs' := by
      obtain ⟨ys, h1, _⟩ := stp3
      exact out3 _ _ h1
    have stp6 : Stps (upd H5 R (.lst (rs'.map V.ref))) S (stepsM cs) := by
      obtain ⟨ys, h1, h2⟩ := stp3
      refine ⟨ys, in6 _ _ h1, Paired.imp (fun x p z => ?_) h2⟩
      obtain ⟨b, rfl, hb⟩ := z
      exact ⟨b, rfl, tp36 _ _ hb⟩
    obtain ⟨H6, e6⟩ : ∃ H6, upd H5 R (.lst (rs'.map V.ref)) = H6 := ⟨_, rfl⟩
    rw [e6] at WR sH6 kq6 hM6 stp6 ⊢
    clear e6 sm6 in6 oldR tp36 out3 tp6 mem' ers eset wd5 s5 kpx hkx dx nw out nd hRl hM4 sm4 sH4 stp3 stp2 kq hM nDd dn dR
    refine ⟨_, rfl, _, rfl, (by omega), (by omega), (by omega), (by omega), for_rangeC (Pv := fun j σ H' => ∃ y6 y7 y8 y9 y10 y11, σ = [some (.ref a), some v, some (.ref S), some (.ref M), some (.int ((((qs.map V.ref).length : Nat) : Int) - 1)), some (.ref R), y6, y7, y8, y9, y10, y11] ∧ Keep rs' H6 H' ∧ WaysH w H' R rs' (restP cs g j)) ⟨_, _, _, _, _, _, rfl, Keep.refl _ _, WR⟩ (fun j σ H7 hj hP => ?_) (fun σ H7 hP => ?_)⟩
    · obtain ⟨y6, y7, y8, y9, y10, y11, rfl, k7, W7⟩ := hP
      obtain ⟨m, em⟩ : ∃ m : Nat, m + 2 + j = prodM cs := ⟨prodM cs - 2 - j, by omega⟩
      have ev : 0 + ((((((qs.map V.ref).length : Nat) : Int) - 1 - 0).toNat : Nat) : Int) - 1 + (j : Int) * -1 = (m : Int) := by omega
      rw [ev]
      have hm : m < prodM cs := by omega
      obtain ⟨q, eq⟩ : ∃ q, qs[m]? = some q := ⟨_, List.getElem?_eq_getElem (by omega)⟩
      have tp7 := WR.tups k7
      obtain ⟨⟨kx, hkx, kpx⟩, nq6⟩ := kq6 m q eq
      have hM7 := k7 _ _ nM6 hM6
      have ndm : ((restD cs g m).map (·.1)).Nodup := by rw [restD_keys]; exact at_once hm
      have fewm := (main_box cs _ (Nat.le_refl _)).few (by rw [List.length_map]; exact l12) p3 (at_get hm)
      have lDm : (restD cs g m).length = (atF cs m).length := List.length_map ..
      refine ⟨_, rfl, _, rfl, M, _, (m : Int), V.ref q, rfl, rfl, .of hM7, atI_ofR (by omega) (by rw [Int.toNat_natCast, List.getElem?_map, eq]; rfl), q, rfl, ⟨kx, .of (k7 _ _ nq6 hkx)⟩, for_list (K := K) (a := q) (xs := kx) (fun i σ H' => ∃ y7 y8 y9 y10 y11, σ = [some (.ref a), some v, some (.ref S), some (.ref M), some (.int ((((qs.map V.ref).length : Nat) : Int) - 1)), some (.ref R), some (.int (m : Int)), y7, y8, y9, y10, y11] ∧ Keep rs' H6 H' ∧ WaysH w H' R rs' ((restP cs g j).set m ((restD cs g m).take i))) ⟨_, _, _, _, _, rfl, k7, by rw [List.take_zero, restP_same em]; exact W7⟩ (fun i σ H' _ hP => ?_) (fun i x σ H8 ex hP => ?_) (fun σ H8 hP => ?_)⟩
      · obtain ⟨_, _, _, _, _, _, k8, _⟩ := hP
        exact .of (k8 _ _ nq6 hkx)
      · obtain ⟨y7, y8, y9, y10, y11, rfl, k8, W8⟩ := hP
        obtain ⟨st, est, hst⟩ := Paired.at kpx ex
        have tp8 := WR.tups k8
        have hst8 := hst.tups tp8
        have kst := List.mem_of_getElem? est
        have stp8 : Stps H8 S (stepsM cs) := by
          obtain ⟨ys, h1, h2⟩ := stp6
          refine ⟨ys, k8 _ _ nS6 h1, Paired.imp (fun x p z => ?_) h2⟩
          obtain ⟨b, rfl, hb⟩ := z
          exact ⟨b, rfl, tp8 _ _ hb⟩
        refine ⟨_, rfl, _, rfl, S, cs, m, rfl, stp8, ok, p3, by omega, fun H9 A s9 nA ⟨ax, hA, hap⟩ => ?_⟩
        have W9 := W8.same s9
        have la : ax.length = (arrM cs m).length := Paired.len hap
        have lar : (arrM cs m).length ≤ 12 := by
          unfold arrM
          rw [List.length_map]
          refine Nat.le_trans (List.length_filter_le ..) ?_
          have := congrArg List.length (stepsM_fst cs)
          rw [List.length_map] at this
          omega
        refine ⟨A, rfl, ⟨ax, .of hA⟩, fun N nN => lc_list (K := K) (a := A) (xs := ax) (fun k H' => Same H9 H' ∧ H' N = some (.lst ((((arrM cs m).take k).map fun b => restN cs b.2 (stepR st b.1 1) g).map natV))) ⟨same_upd nN, upd_same⟩ (fun k H' _ p => .of (p.1 _ _ hA)) (fun k x HA exA p => ?_) (fun HA p => ?_)⟩
        · obtain ⟨sA, hN⟩ := p
          obtain ⟨⟨kd, z⟩, ear, t, rfl, ht⟩ := Paired.at hap exA
          have marr := List.mem_of_getElem? ear
          obtain ⟨_, am2, am3⟩ := arr_mem hm marr
          have am2 : m < z := am2
          have am3 : z < prodM cs := am3
          have WA := W9.same sA
          have zl : z < ((restP cs g j).set m ((restD cs g m).take i)).length := by rw [List.length_set, restP_len]; exact am3
          obtain ⟨dz, hdz, wdz⟩ := WA.get zl
          have ez : ((restP cs g j).set m ((restD cs g m).take i))[z] = restD cs g z := by
            have h1 : ((restP cs g j).set m ((restD cs g m).take i))[z]? = some (restD cs g z) := by
              rw [List.getElem?_set_ne (by omega), restP_get am3, if_pos (by omega)]
            rw [List.getElem?_eq_getElem zl] at h1
            exact Option.some.inj h1
          rw [ez] at wdz
          have kz := at_step okc hm kst marr
          have kz : stepR st kd 1 ∈ (atF cs z).map (·.1) := kz
          refine ⟨t, _, rfl, .of (sA _ _ ht), rfl, _, _, rfl, _, _, rfl, rfl, rfl, yesT ?_⟩
          refine ⟨_, rfl, _, rfl, R, _, (z : Int), V.ref dz, rfl, rfl, .of WA.lst, atI_ofR (by omega) (by rw [Int.toNat_natCast, List.getElem?_map, hdz]; rfl), ?_⟩
          refine ⟨_, rfl, _, rfl, x, st, kd, 1, rfl, hst8.same (s9.trans sA), by decide, fun HB v2 sB hv2 => ?_⟩
          obtain ⟨rows, DX0, pr⟩ := wdz.same sB
          refine ⟨dz, rows, keyR (stepR st kd 1), natV (restN cs z (stepR st kd 1) g), rfl, DX0, key_st hv2, ?_, ?_⟩
          · rw [wd_some pr (by rw [restD_keys]; exact kz), rest_val kz]
          · refine ⟨_, sB _ _ hN, ?_, same_grow nN (sA.trans sB), ?_⟩
            · simp only [List.length_map, List.length_take]
              exact small (by omega)
            · rw [upd_same, take_snoc ear, List.map_append, List.map_append]
              rfl
        · obtain ⟨sA, hN⟩ := p
          rw [la, List.take_length] at hN
          have e1 : ((arrM cs m).map fun b => restN cs b.2 (stepR st b.1 1) g).map natV = (((arrM cs m).map fun b => restN cs b.2 (stepR st b.1 1) g).map fun n : Nat => (n : Int)).map V.int := by
            simp only [List.map_map]
            rfl
          rw [e1] at hN
          refine ⟨N, _, rfl, .of hN, ?_⟩
          rw [sum_natX, ← rest_step okc (by omega)]
          have WA := W9.same sA
          have ml : m < ((restP cs g j).set m ((restD cs g m).take i)).length := by rw [List.length_set, restP_len]; exact hm
          obtain ⟨dm, hdm, wdm⟩ := WA.get ml
          have ezm : ((restP cs g j).set m ((restD cs g m).take i))[m] = (restD cs g m).take i := List.getElem_set_self ..
          rw [ezm] at wdm
          have eD : (restD cs g m)[i]? = some (st, restN cs m st g) := by
            unfold restD
            rw [List.getElem?_map] at est ⊢
            cases h : (atF cs m)[i]? with
            | none => rw [h] at est; cases est
            | some p =>
              rw [h] at est
              obtain rfl : p.1 = st := Option.some.inj est
              rfl
          have hstA := hst8.same (s9.trans sA)
          obtain ⟨rows, DX0, KK, lrow, wn, tpn⟩ := wdm.new eD ndm hstA
          refine ⟨_, rfl, _, rfl, R, _, (m : Int), V.ref dm, rfl, rfl, .of WA.lst, atI_ofR (by omega) (by rw [Int.toNat_natCast, List.getElem?_map, hdm]; rfl), _, rfl, dm, rows, keyR st, rfl, DX0, KK, Nat.le_of_lt (small (by omega)), ?_⟩
          have wn2 : WDs w (upd HA dm (DX w dm (putX rows (keyR st) x (natV (restN cs m st g))))) dm (addF ((restD cs g m).take i) st (restN cs m st g)) := by
            rw [add_new (key_new eD ndm)]
            have h := wn
            rw [take_snoc eD] at h
            exact h
          obtain ⟨Wn, kn⟩ := WA.put hdm (by rw [List.getElem?_eq_getElem ml, ezm]) wn2 tpn
          rw [put_set (p := (st, restN cs m st g)) (by rw [restP_len]; exact hm) eD ndm] at Wn
          exact ⟨_, _, _, _, _, rfl, (k8.trans (Keep.of (s9.trans sA))).trans kn, Wn⟩
      · obtain ⟨y7, y8, y9, y10, y11, rfl, k8, W8⟩ := hP
        rw [List.take_of_length_le (by rw [Paired.len kpx, List.length_map]; omega), restP_next em] at W8
        exact ⟨_, _, _, _, _, _, rfl, k8, W8⟩
    · obtain ⟨y6, y7, y8, y9, y10, y11, rfl, k7, W7⟩ := hP
      have el : ((((qs.map V.ref).length : Nat) : Int) - 1 - 0).toNat = prodM cs - 1 := by omega
      rw [el, restP_all cs g P0] at W7
      exact ⟨_, rfl, q _ R rs' (k7.same sH6 new') nRH new' W7⟩
end
end UP

set_option Elab.async false
set_option linter.all false
set_option maxRecDepth 100000
set_option maxHeartbeats 4000000
set_option pp.maxSteps 700
namespace UP
open PySem PySem.Spec PyProof.Rows L2
/-- a choice: the kind, the mark after it, the state after it, how many orders go on from there -/
def ChV (cs : List Run) (g s : Option Run) (H : Hp) (x : V) (a : Str × Nat) : Prop := ∃ t v, x = .ref t ∧ H t = some (.tup [.str a.1, natV a.2, v, natV (restN cs a.2 (stepR s a.1 1) g)]) ∧ StV H v (stepR s a.1 1)
theorem ChV.tups {cs : List Run} {g s : Option Run} {H H' : Hp} {x : V} {a : Str × Nat} (t : Tups H H') (h : ChV cs g s H x a) : ChV cs g s H' x a := by
  obtain ⟨b, v, rfl, hb, hv⟩ := h
  exact ⟨b, v, rfl, t _ _ hb, hv.tups t⟩
theorem Stps.same {H H' : Hp} {a : Addr} {l : List (Run × Nat)} (s : Same H H') (h : Stps H a l) : Stps H' a l := by
  obtain ⟨xs, h1, h2⟩ := h
  exact ⟨xs, s _ _ h1, Paired.imp (fun _ _ z => z.same s) h2⟩
section
variable {P : Program} {w : World} {K : PySem.W.Frag} {mg : Str → Option Value} {base : Heap}
/-! choices_at: slots 0:steps 1:rest 2:mark 3:state 4:choices 5:kind 6:after 7:following -/
abbrev s_choices_at : Stmt := topS 46
theorem sc_choices_at : FnScope ["steps", "rest", "mark", "state", "choices", "kind", "after", "following"] ["steps", "rest", "mark", "state"] (defScope s_choices_at) := ⟨rfl, rfl, rfl, by decide +kernel, rfl, by decide +kernel, by decide +kernel⟩
def sp_choices_at (w : World) : Sp := fun vs H Q _ => ∃ (S R : Addr) (rs : List Addr) (cs : List Run) (g s : Option Run) (m : Nat) (v : V), vs = [.ref S, .ref R, natV m, v] ∧ Stps H S (stepsM cs) ∧ WaysH w H R rs (restF cs g) ∧ CtOk cs ∧ prodM cs ≤ 3000 ∧ m < prodM cs ∧ StV H v s ∧ s ∈ (atF cs m).map (·.1) ∧
  ∀ H' C xs, Same H H' → H' C = some (.lst xs) → Paired (ChV cs g s H') xs (arrM cs m) → Q (.ref C) H'
theorem ok_choices_at (D : Df K mg "choices_at" s_choices_at) (T : Tx mg) (G_arrivals_at : Has P w K mg base 1 "arrivals_at" ["steps", "mark"] sp_arrivals_at) (G_state_after_run : Has P w K mg base 2 "state_after_run" ["state", "kind", "count"] sp_state_after_run) : Has P w K mg base 3 "choices_at" ["steps", "rest", "mark", "state"] (sp_choices_at w) := by
  refine has_of D sc_choices_at (fun _ _ _ _ _ _ us hl => match us, hl with | [_, _, _, _], _ => rfl) (fun vs H Q E h => ?_) (fun f cdv A₀ outer s₀ H vs Q E hr h => ?_)
  · obtain ⟨_, _, _, _, _, _, _, _, rfl, _⟩ := h
    rfl
  · obtain ⟨S, R, rs, cs, g, s, m, v, rfl, stp, W, ok, p3, hm, hv, ks, q⟩ := h
    have okc : Okc cs := ⟨fun r hr => (ok.2.1 r hr).2.1, ok.2.2⟩
    refine ⟨_, (pss_cons (ps_set (i := 4) sc_choices_at.nd rfl (by first | exact Or.inl rfl | exact Or.inr rfl) (pe_lst pa_nil))
    (pss_cons (ps_for PassesOwn.never rfl (pi_list (pe_callH G_arrivals_at (hr.mono (by omega)) (by rfl) (pa_cons (pv 0) (pa_cons (pv 2) pa_nil)))) (pg_tup rfl (pgs_cons (pg_name (i := 5) sc_choices_at.nd rfl (by first | exact Or.inl rfl | exact Or.inr rfl)) (pgs_cons (pg_name (i := 6) sc_choices_at.nd rfl (by first | exact Or.inl rfl | exact Or.inr rfl)) pgs_nil)))
      (pss_cons (ps_set (i := 7) sc_choices_at.nd rfl (by first | exact Or.inl rfl | exact Or.inr rfl) (pe_callH G_state_after_run (hr.mono (by omega)) (by rfl) (pa_cons (pv 3) (pa_cons (pv 5) (pa_cons pe_int pa_nil)))))
    (pss_one (ps_expr (pe_bm PySem.F.plainAttrs_list PySem.F.slot_list_append PySem.F.type_list_append mt_append (pv 4) (pa_cons (pe_tup (pa_cons (pv 5) (pa_cons (pv 6) (pa_cons (pv 7) (pa_cons (pe_dgetX (w := w) rfl (room65 hr) (pe_ix ix_list (pv 1) (pv 6) (fun _ _ => rfl)) (pv 7) (fun _ _ => rfl)) pa_nil))))) pa_nil))))))
    (pss_one (ps_ret (pv 4))))), ?_⟩
    refine ⟨Nat.zero_le _, fun C nC => ?_⟩
    have sC := same_upd (o := .lst []) nC
    refine ⟨_, rfl, _, rfl, S, cs, m, rfl, stp.same sC, ok, p3, by omega, fun H2 A s2 nA ⟨ax, hA, hap⟩ => ?_⟩
    have hC2 := s2 _ _ (upd_same : (upd H C (.lst [])) C = some (.lst []))
    have s02 := sC.trans s2
    have la : ax.length = (arrM cs m).length := Paired.len hap
    have lar : (arrM cs m).length ≤ 12 := by
      unfold arrM
      rw [List.length_map]
      refine Nat.le_trans (List.length_filter_le ..) ?_
      have := congrArg List.length (stepsM_fst cs)
      rw [List.length_map] at this
      have := ok.1
      omega
    have AC : A ≠ C := fun z => by
      have h1 : (upd H C (.lst [])) C = some (.lst []) := upd_same
      rw [z, h1] at nA
      cases nA
    refine ⟨A, rfl, ⟨ax, .of hA⟩, for_list (K := K) (a := A) (xs := ax) (fun i σ H' => ∃ y5 y6 y7 xs, σ = [some (.ref S), some (.ref R), some (natV m), some v, some (.ref C), y5, y6, y7] ∧ Same H H' ∧ H' A = some (.lst ax) ∧ Paired (ArrV H') ax (arrM cs m) ∧ H' C = some (.lst xs) ∧ Paired (ChV cs g s H') xs ((arrM cs m).take i)) ⟨none, none, none, [], rfl, s02, hA, hap, hC2, .nil⟩ (fun i σ H' _ hP => ?_) (fun i x σ H3 ex hP => ?_) (fun σ H3 hP => ?_)⟩
    · obtain ⟨_, _, _, _, _, _, h, _⟩ := hP
      exact .of h
    · obtain ⟨y5, y6, y7, xs, rfl, s3, hA3, hap3, hC3, hx3⟩ := hP
      obtain ⟨⟨kd, z⟩, ear, t, rfl, ht⟩ := Paired.at hap3 ex
      have marr := List.mem_of_getElem? ear
      obtain ⟨_, am2, am3⟩ := arr_mem hm marr
      have am3 : z < prodM cs := am3
      have kz : stepR s kd 1 ∈ (atF cs z).map (·.1) := at_step okc hm ks marr
      have lxs : xs.length ≤ 12 := by
        rw [Paired.len hx3, List.length_take]
        omega
      refine ⟨t, _, rfl, .of ht, rfl, _, _, rfl, _, _, rfl, rfl, ?_⟩
      refine ⟨_, rfl, _, rfl, v, s, kd, 1, rfl, hv.same s3, by decide, fun H4 v4 s4 hv4 => ?_⟩
      have W4 := W.same (s3.trans s4)
      have hC4 := s4 _ _ hC3
      obtain ⟨dz, hdz, wdz⟩ : ∃ dz, rs[z]? = some dz ∧ WDs w H4 dz (restD cs g z) := by
        have zl : z < (restF cs g).length := by unfold restF; rw [List.length_map, List.length_range]; exact am3
        obtain ⟨dz, h1, h2⟩ := W4.get zl
        have h3 := rest_get (g := g) am3
        rw [List.getElem?_eq_getElem zl] at h3
        rw [Option.some.inj h3] at h2
        exact ⟨dz, h1, h2⟩
      obtain ⟨rows, DX0, pr⟩ := wdz
      refine ⟨_, rfl, .inl ⟨rfl, _, SqL.of hC4⟩, _, rfl, _, rfl, _, rfl, _, rfl, _, rfl, R, _, (z : Int), V.ref dz, rfl, rfl, .of W4.lst, atI_ofR (by omega) (by rw [Int.toNat_natCast, List.getElem?_map, hdz]; rfl), _, rfl, dz, rows, keyR (stepR s kd 1), natV (restN cs z (stepR s kd 1) g), rfl, DX0, key_st hv4, ?_, (by show 4 ≤ sizeLine; decide), fun n nn => ⟨C, _, _, rfl, rfl, same_upd nn _ _ hC4, small (by omega), ?_⟩⟩
      · rw [wd_some pr (by rw [restD_keys]; exact kz), rest_val kz]
      · have sn := same_upd (o := .tup [.str kd, natV z, v4, natV (restN cs z (stepR s kd 1) g)]) nn
        have hC5 := sn _ _ hC4
        have tp : Tups H3 (upd (upd H4 n (.tup [.str kd, natV z, v4, natV (restN cs z (stepR s kd 1) g)])) C (.lst (xs ++ [.ref n]))) := (Tups.of (s4.trans sn)).trans (Tups.put (noTup_lst hC5))
        refine ⟨_, _, _, xs ++ [.ref n], rfl, same_grow nC (s3.trans (s4.trans sn)), ?_, Paired.imp (fun x p y => ?_) hap3, upd_same, ?_⟩
        · rw [upd_ne AC]
          exact sn _ _ (s4 _ _ hA3)
        · obtain ⟨b, rfl, hb⟩ := y
          exact ⟨b, rfl, tp _ _ hb⟩
        · rw [take_snoc ear]
          refine Paired.app (Paired.imp (fun _ _ y => y.tups tp) hx3) (.cons ?_ .nil)
          have tn := Tups.put (o := .lst (xs ++ [.ref n])) (noTup_lst hC5)
          exact ⟨n, v4, rfl, tn _ _ upd_same, (hv4.same sn).tups tn⟩
    · obtain ⟨y5, y6, y7, xs, rfl, s3, _, _, hC3, hx3⟩ := hP
      rw [la, List.take_length] at hx3
      exact ⟨_, rfl, q _ C xs s3 hC3 hx3⟩
end
end UP

set_option Elab.async false
set_option linter.all false
set_option maxRecDepth 100000
set_option maxHeartbeats 4000000
set_option pp.maxSteps 700
namespace UP
open PySem PySem.Spec PyProof.Rows L2
theorem lenN_leX : ∀ cs : List Run, (cs.map fun r : Run => r.2.toNat).sum + 1 ≤ prodM cs
  | [] => Nat.le_refl _
  | r :: t => by
    have ih := lenN_leX t
    have h : r.2.toNat * 1 ≤ r.2.toNat * prodM t := Nat.mul_le_mul_left _ (prodM_pos t)
    show _ ≤ (r.2.toNat + 1) * prodM t
    rw [List.map_cons, List.sum_cons, Nat.add_mul, Nat.one_mul]
    omega
theorem lenN_eqX : ∀ {cs : List Run}, (∀ r ∈ cs, 1 ≤ r.2) → (((cs.map fun r : Run => r.2.toNat).sum : Nat) : Int) = lenR cs
  | [], _ => rfl
  | r :: t, h => by
    have ih := lenN_eqX (cs := t) fun x hx => h x (List.mem_cons_of_mem _ hx)
    have h1 := h r (List.mem_cons_self ..)
    rw [List.map_cons, List.sum_cons, lenR_cons, Int.natCast_add, ih]
    omega
theorem left_end {cs : List Run} (ok : Okc cs) {m : Nat} (hm : m < prodM cs) (h : lenR (leftAt cs m) = 0) : m + 1 = prodM cs := by
  refine Classical.byContradiction fun n => ?_
  have nn : leftAt cs m = [] := by
    cases e : leftAt cs m with
    | nil => rfl
    | cons r t =>
      have := lenR_mem (left_ok ok m) (r := r) (by rw [e]; exact List.mem_cons_self ..)
      omega
  have full : ∀ p ∈ stepsM cs, digM p m = digM p (prodM cs - 1) := fun p hp => by
    have h1 : ((p.1.1, p.1.2 - ((digM p m : Nat) : Int)) : Run) ∉ leftAt cs m := by rw [nn]; exact List.not_mem_nil
    have h2 : ¬ 0 < p.1.2 - ((digM p m : Nat) : Int) := fun h => h1 (posR_mem.mpr ⟨List.mem_map.mpr ⟨p, hp, rfl⟩, h⟩)
    have h3 := dig_le p m
    rw [dig_last hp]
    omega
  have := dig_same full hm (by have := prodM_pos cs; omega)
  have := prodM_pos cs
  omega
theorem left_len {cs : List Run} (ok : Okc cs) {m : Nat} (hm : m < prodM cs) {a : Str × Nat} (ha : a ∈ arrM cs m) : lenR (leftAt cs a.2) = lenR (leftAt cs m) - 1 := by
  have hk : a.1 ∈ (leftAt cs m).map (·.1) := by
    rw [left_arr ok]
    exact List.mem_map.mpr ⟨a, ha, rfl⟩
  obtain ⟨r, hr, e⟩ := List.mem_map.mp hk
  have e : r.1 = a.1 := e
  have h := less_len (left_ok ok m) hr
  obtain ⟨p, hp, rfl⟩ := List.mem_map.mp ha
  obtain ⟨hp, hd⟩ := List.mem_filter.mp hp
  obtain ⟨i, hi⟩ := List.getElem?_of_mem hp
  rw [e] at h
  have h2 := left_less ok hi hm (of_decide_eq_true hd)
  show lenR (leftAt cs (m + p.2)) = _
  rw [← h2]
  exact h
theorem left_none {cs : List Run} (ok : Okc cs) (m : Nat) (h : m + 1 = prodM cs) : lenR (leftAt cs m) = 0 := by
  have e : m = prodM cs - 1 := by omega
  rw [e, left_last ok]
  rfl
/-- where in its block -/
theorem go_at {cs : List Run} (ok : Okc cs) {m : Nat} (hm : m + 1 < prodM cs) {s g : Option Run} {i j : Nat} {a : Str × Nat} (e : (arrM cs m)[i]? = some a) (hj : j < restN cs a.2 (stepR s a.1 1) g) :
    (goL cs m s g)[(((arrM cs m).take i).map fun b => restN cs b.2 (stepR s b.1 1) g).sum + j]? = ((goL cs a.2 (stepR s a.1 1) g)[j]?).map (a.1 :: ·) := by
  rw [go_step ok hm]
  have h := flat_get (f := fun b : Str × Nat => (goL cs b.2 (stepR s b.1 1) g).map (b.1 :: ·)) e (j := j) (by rw [List.length_map]; exact hj)
  have e2 : (((arrM cs m).take i).map fun b => ((goL cs b.2 (stepR s b.1 1) g).map (b.1 :: ·)).length) = ((arrM cs m).take i).map fun b => restN cs b.2 (stepR s b.1 1) g := List.map_congr_left fun b _ => List.length_map ..
  rw [e2] at h
  rw [h, List.getElem?_map]
section
variable {P : Program} {w : World} {K : PySem.W.Frag} {mg : Str → Option Value} {base : Heap}
/-! nth_order: slots 0:counts 1:state 2:index 3:rest 4:steps 5:items 6:mark 7:reached 8:choices 9:kind 10:after 11:following 12:orders -/
abbrev s_nth_order : Stmt := topS 50
theorem sc_nth_order : FnScope ["counts", "state", "index", "rest", "steps", "items", "mark", "reached", "choices", "kind", "after", "following", "orders"] ["counts", "state", "index"] (defScope s_nth_order) := ⟨rfl, rfl, rfl, by decide +kernel, rfl, by decide +kernel, by decide +kernel⟩
def sp_nth_order : Sp := fun vs H Q _ => ∃ (v u : V) (cs : List Run) (g : Option Run) (i : Nat) (l : List Str), vs = [v, u, natV i] ∧ RunsG H v cs ∧ CtOk cs ∧ prodM cs ≤ 3000 ∧ StG H u g ∧ StOk g ∧ (goL cs 0 none g)[i]? = some l ∧ ∀ H' L, Same H H' → H L = none → H' L = some (.lst (l.map V.str)) → Q (.ref L) H'
theorem ok_nth_order (D : Df K mg "nth_order" s_nth_order) (T : Tx mg) (G_checked_counts : Has P w K mg base 5 "checked_counts" ["counts"] sp_checked_counts) (G_checked_state : Has P w K mg base 3 "checked_state" ["state"] sp_checked_state) (G_check_product : Has P w K mg base 2 "check_product" ["counts"] sp_check_product)
    (G_ways_from : Has P w K mg base 4 "ways_from" ["counts", "state"] (sp_ways_from w)) (G_is_within : Has P w K mg base 2 "is_within" ["value", "low", "high"] sp_is_within) (G_steps_of : Has P w K mg base 1 "steps_of" ["counts"] sp_steps_of) (G_length_of : Has P w K mg base 1 "length_of" ["runs"] sp_length_of)
    (G_choices_at : Has P w K mg base 3 "choices_at" ["steps", "rest", "mark", "state"] (sp_choices_at w)) : Has P w K mg base 6 "nth_order" ["counts", "state", "index"] sp_nth_order := by
  refine has_of D sc_nth_order (fun _ _ _ _ _ _ us hl => match us, hl with | [_, _, _], _ => rfl) (fun vs H Q E h => ?_) (fun f cdv A₀ outer s₀ H vs Q E hr h => ?_)
  · obtain ⟨_, _, _, _, _, _, rfl, _⟩ := h
    rfl
  · obtain ⟨v, u, cs, g, i, l, rfl, hR, ok, p3, hu, so, hl, q⟩ := h
    have okc : Okc cs := ⟨fun r hr => (ok.2.1 r hr).2.1, ok.2.2⟩
    have P0 := prodM_pos cs
    have l12 := ok.1
    have il : i < restN cs 0 none g := (List.getElem?_eq_some_iff.mp hl).1
    refine ⟨_, (pss_cons (ps_set (i := 0) sc_nth_order.nd rfl (by first | exact Or.inl rfl | exact Or.inr rfl) (pe_callH G_checked_counts (hr.mono (by omega)) (by rfl) (pa_cons (pv 0) pa_nil)))
    (pss_cons (ps_set (i := 1) sc_nth_order.nd rfl (by first | exact Or.inl rfl | exact Or.inr rfl) (pe_callH G_checked_state (hr.mono (by omega)) (by rfl) (pa_cons (pv 1) pa_nil)))
    (pss_cons (ps_expr (pe_callH G_check_product (hr.mono (by omega)) (by rfl) (pa_cons (pv 0) pa_nil)))
    (pss_cons (ps_set (i := 3) sc_nth_order.nd rfl (by first | exact Or.inl rfl | exact Or.inr rfl) (pe_callH G_ways_from (hr.mono (by omega)) (by rfl) (pa_cons (pv 0) (pa_cons (pv 1) pa_nil))))
    (pss_cons (ps_if (pt_not (pt_val (pe_callH G_is_within (hr.mono (by omega)) (by rfl) (pa_cons (pv 2) (pa_cons pe_int (pa_cons (pe_op op_sub (pe_dgetX (w := w) rfl (room65 hr) (pe_ix ix_list (pv 3) pe_int (fun _ _ => rfl)) pe_non (fun _ _ => rfl)) pe_int) pa_nil)))))) (pss_one ps_never) pss_nil)
    (pss_cons (ps_set (i := 4) sc_nth_order.nd rfl (by first | exact Or.inl rfl | exact Or.inr rfl) (pe_callH G_steps_of (hr.mono (by omega)) (by rfl) (pa_cons (pv 0) pa_nil)))
    (pss_cons (ps_set (i := 5) sc_nth_order.nd rfl (by first | exact Or.inl rfl | exact Or.inr rfl) (pe_lst pa_nil))
    (pss_cons (ps_set (i := 6) sc_nth_order.nd rfl (by first | exact Or.inl rfl | exact Or.inr rfl) pe_int)
    (pss_cons (ps_set (i := 7) sc_nth_order.nd rfl (by first | exact Or.inl rfl | exact Or.inr rfl) pe_non)
    (pss_cons (ps_while PassesOwn.never (pt_cmpR op_lt (pe_callB call_len_seq (by rfl) T.n_len (by decide +kernel) (pa_cons (pv 5) pa_nil)) (pe_callH G_length_of (hr.mono (by omega)) (by rfl) (pa_cons (pv 0) pa_nil)) (nomark _))
      (pss_cons (ps_set (i := 8) sc_nth_order.nd rfl (by first | exact Or.inl rfl | exact Or.inr rfl) (pe_callH G_choices_at (hr.mono (by omega)) (by rfl) (pa_cons (pv 4) (pa_cons (pv 3) (pa_cons (pv 6) (pa_cons (pv 7) pa_nil))))))
    (pss_one (ps_for PassesOwn.never rfl (pi_list (pv 8)) (pg_tup rfl (pgs_cons (pg_name (i := 9) sc_nth_order.nd rfl (by first | exact Or.inl rfl | exact Or.inr rfl)) (pgs_cons (pg_name (i := 10) sc_nth_order.nd rfl (by first | exact Or.inl rfl | exact Or.inr rfl)) (pgs_cons (pg_name (i := 11) sc_nth_order.nd rfl (by first | exact Or.inl rfl | exact Or.inr rfl)) (pgs_cons (pg_name (i := 12) sc_nth_order.nd rfl (by first | exact Or.inl rfl | exact Or.inr rfl)) pgs_nil)))))
      (pss_cons (ps_if (pt_cmpR op_lt (pv 2) (pv 12) (nomark _)) (pss_cons (ps_expr (pe_bm PySem.F.plainAttrs_list PySem.F.slot_list_append PySem.F.type_list_append mt_append (pv 5) (pa_cons (pv 9) pa_nil)))
    (pss_cons (ps_set (i := 6) sc_nth_order.nd rfl (by first | exact Or.inl rfl | exact Or.inr rfl) (pv 10))
    (pss_cons (ps_set (i := 7) sc_nth_order.nd rfl (by first | exact Or.inl rfl | exact Or.inr rfl) (pv 11))
    (pss_one ps_break)))) pss_nil)
    (pss_one (ps_aug (i := 2) sc_nth_order.nd rfl (by first | exact Or.inl rfl | exact Or.inr rfl) (pv 12) ip_sub)))))))
    (pss_one (ps_ret (pv 5))))))))))))), ?_⟩
    refine ⟨_, rfl, v, cs, rfl, hR, ok, fun H1 a s1 na hR1 => ?_⟩
    refine ⟨_, rfl, u, g, rfl, hu.same s1, so, fun H2 v2 s2 hv2 => ?_⟩
    refine ⟨_, rfl, a, cs, rfl, hR1.same s2, ok, p3, fun H3 s3 => ?_⟩
    have hR3 := hR1.same (s2.trans s3)
    refine ⟨_, rfl, _, rfl, a, v2, cs, g, rfl, hR3, ok, p3, hv2.same s3, so, fun H4 R rs s4 nR nrs W => ?_⟩
    obtain ⟨d0, hd0, wd0⟩ : ∃ d0, rs[0]? = some d0 ∧ WDs w H4 d0 (restD cs g 0) := by
      have zl : 0 < (restF cs g).length := by unfold restF; rw [List.length_map, List.length_range]; exact P0
      obtain ⟨dz, h1, h2⟩ := W.get zl
      have h3 := rest_get (g := g) P0
      rw [List.getElem?_eq_getElem zl] at h3
      rw [Option.some.inj h3] at h2
      exact ⟨dz, h1, h2⟩
    obtain ⟨rows, DX0, pr⟩ := wd0
    have k0 := at_first okc
    refine ⟨_, rfl, _, rfl, R, _, (0 : Int), V.ref d0, rfl, rfl, .of W.lst, atI_ofR (by omega) (by rw [show (0 : Int).toNat = 0 from rfl, List.getElem?_map, hd0]; rfl), d0, rows, keyR none, natV (restN cs 0 none g), rfl, DX0, key_st (st := none) rfl, (by rw [wd_some pr (by rw [restD_keys]; exact k0), rest_val k0]), ?_⟩
    refine ⟨_, _, rfl, rfl, (i : Int), 0, _, rfl, ?_⟩
    rw [decide_eq_true (show (0 : Int) ≤ (i : Int) ∧ (i : Int) ≤ ((restN cs 0 none g : Nat) : Int) - 1 by omega)]
    refine ⟨true, rfl, iteF ?_⟩
    have hR4 := hR3.same s4
    refine ⟨_, rfl, a, cs, rfl, hR4, ok, p3, fun H5 S s5 nS stp => ?_⟩
    have W5 := W.same s5
    have hR5 := hR4.same s5
    have sH5 := s1.trans (s2.trans (s3.trans (s4.trans s5)))
    refine ⟨Nat.zero_le _, fun I nI => ?_⟩
    have sI := same_upd (o := .lst []) nI
    have nIH : H I = none := sH5.free nI
    have tot := lenR_nnX okc
    refine ⟨fun n σ H' => ∃ pre m s k vr y8 y9 y10 y11 y12, σ = [some (.ref a), some v2, some (natV k), some (.ref R), some (.ref S), some (.ref I), some (natV m), some vr, y8, y9, y10, y11, y12] ∧ Same H5 H' ∧ H' I = some (.lst (pre.map V.str)) ∧ StV H' vr s ∧ s ∈ (atF cs m).map (·.1) ∧ m < prodM cs ∧ ((goL cs m s g)[k]?).map (pre ++ ·) = some l ∧ lenR (leftAt cs m) = (n : Int) ∧ ((pre.length : Nat) : Int) + (n : Int) = lenR cs, ⟨(lenR cs).toNat, [], 0, none, i, .non, none, none, none, none, none, rfl, sI, upd_same, rfl, k0, P0, ?_, ?_, ?_⟩, fun n σ H6 hW => ?_⟩
    · rw [hl]
      rfl
    · rw [left_zero okc]
      omega
    · show (0 : Int) + _ = _
      omega
    obtain ⟨pre, m, s, k, vr, y8, y9, y10, y11, y12, rfl, s6, hI, hvr, ks, hm, hgo, hn, hpre⟩ := hW
    obtain ⟨gl, egl, epl⟩ : ∃ gl, (goL cs m s g)[k]? = some gl ∧ pre ++ gl = l := by
      cases e : (goL cs m s g)[k]? with
      | none => rw [e] at hgo; cases hgo
      | some gl => rw [e] at hgo; exact ⟨gl, rfl, Option.some.inj hgo⟩
    have kl : k < restN cs m s g := (List.getElem?_eq_some_iff.mp egl).1
    have pm : lenR cs ≤ 3000 := by
      have h1 := lenN_leX cs
      have h2 := lenN_eqX okc.pos
      omega
    refine ⟨_, rfl, I, _, rfl, .inl (.of hI), _, rfl, a, cs, rfl, hR5.same s6, by omega, fun H7 s7 => ?_⟩
    have s67 := s6.trans s7
    have hI7 := s7 _ _ hI
    have hvr7 := hvr.same s7
    refine ⟨_, _, rfl, rfl, _, rfl, ?_⟩
    rw [List.length_map]
    refine ite2 (fun c => ?_) (fun c => ?_)
    · have c : ((pre.length : Nat) : Int) < lenR cs := of_decide_eq_true c
      obtain ⟨n', rfl⟩ : ∃ n', n = n' + 1 := ⟨n - 1, by omega⟩
      have hm1 : m + 1 < prodM cs := Classical.byContradiction fun z => by
        have := left_none okc m (by omega)
        omega
      refine ⟨_, fun σ' H' h => ⟨n', Nat.lt_succ_self _, h⟩, ?_⟩
      refine ⟨_, rfl, _, rfl, _, rfl, _, rfl, S, R, rs, cs, g, s, m, vr, rfl, stp.same s67, W5.same s67, ok, p3, hm, hvr7, ks, fun H8 C xs s8 hC hx => ?_⟩
      have s68 := s67.trans s8
      have hI8 := s8 _ _ hI7
      have lx : xs.length = (arrM cs m).length := Paired.len hx
      have hrest := rest_step okc hm1 s g
      refine ⟨_, rfl, C, rfl, ⟨xs, .of hC⟩, for_list (K := K) (a := C) (xs := xs) (fun j σ H' => ∃ kj y9 y10 y11 y12, σ = [some (.ref a), some v2, some (natV kj), some (.ref R), some (.ref S), some (.ref I), some (natV m), some vr, some (.ref C), y9, y10, y11, y12] ∧ H' = H8 ∧ k = (((arrM cs m).take j).map fun b => restN cs b.2 (stepR s b.1 1) g).sum + kj) ⟨k, _, _, _, _, rfl, rfl, by simp⟩ (fun j σ H' _ hP => ?_) (fun j x σ H9 ex hP => ?_) (fun σ H9 hP => ?_)⟩
      · obtain ⟨_, _, _, _, _, _, rfl, _⟩ := hP
        exact .of hC
      · obtain ⟨kj, y9, y10, y11, y12, rfl, rfl, hk⟩ := hP
        obtain ⟨⟨kd, z⟩, ear, t, vz, rfl, ht, hvz⟩ := Paired.at hx ex
        have marr := List.mem_of_getElem? ear
        obtain ⟨_, _, am3⟩ := arr_mem hm marr
        have am3 : z < prodM cs := am3
        have kz : stepR s kd 1 ∈ (atF cs z).map (·.1) := at_step okc hm ks marr
        have hll : lenR (leftAt cs z) = lenR (leftAt cs m) - 1 := left_len okc hm marr
        refine ⟨t, _, rfl, .of ht, rfl, _, _, rfl, _, _, rfl, _, _, rfl, _, _, rfl, rfl, ?_⟩
        refine ⟨_, rfl, _, rfl, _, _, rfl, rfl, _, rfl, ite2 (fun e => ?_) (fun e => ?_)⟩
        · have e : ((kj : Nat) : Int) < ((restN cs z (stepR s kd 1) g : Nat) : Int) := of_decide_eq_true e
          have hget := go_at okc hm1 (g := g) ear (j := kj) (by show kj < restN cs z (stepR s kd 1) g; omega)
          have hget : (goL cs m s g)[k]? = ((goL cs z (stepR s kd 1) g)[kj]?).map (kd :: ·) := by
            rw [hk]
            exact hget
          refine ⟨_, rfl, .inl ⟨rfl, _, SqL.of hI8⟩, _, rfl, I, _, _, rfl, rfl, hI8, small (by rw [List.length_map]; omega), ?_⟩
          refine ⟨_, rfl, _, rfl, pre ++ [kd], z, stepR s kd 1, kj, vz, _, _, _, _, _, rfl, same_grow nI s68, ?_, hvz.tups (Tups.put (noTup_lst hI8)), kz, am3, ?_, by omega, ?_⟩
          · rw [upd_same, List.map_append]
            rfl
          · rw [egl] at hget
            cases h : (goL cs z (stepR s kd 1) g)[kj]? with
            | none => rw [h] at hget; cases hget
            | some gz =>
              rw [h] at hget
              have hg : gl = kd :: gz := Option.some.inj hget
              show some (pre ++ [kd] ++ gz) = some l
              rw [← epl, hg, List.append_assoc]
              rfl
          · rw [List.length_append]
            show ((pre.length + 1 : Nat) : Int) + (n' : Int) = lenR cs
            omega
        · have e : ¬ ((kj : Nat) : Int) < ((restN cs z (stepR s kd 1) g : Nat) : Int) := fun z => e (decide_eq_true z)
          refine ⟨_, rfl, _, rfl, _, _, rfl, rfl, kj - restN cs z (stepR s kd 1) g, some (.str kd), some (natV z), some vz, some (natV (restN cs z (stepR s kd 1) g)), ?_, rfl, ?_⟩
          · have e1 : V.int (((kj : Nat) : Int) - ((restN cs z (stepR s kd 1) g : Nat) : Int)) = natV (kj - restN cs z (stepR s kd 1) g) := by
              unfold natV
              congr 1
              omega
            rw [← e1]
            rfl
          · rw [take_snoc ear, List.map_append, List.sum_append, hk]
            simp only [List.map_cons, List.map_nil, List.sum_cons, List.sum_nil]
            omega
      · obtain ⟨kj, y9, y10, y11, y12, rfl, rfl, hk⟩ := hP
        rw [lx, List.take_length, ← hrest] at hk
        omega
    · have c : ¬ ((pre.length : Nat) : Int) < lenR cs := fun z => c (decide_eq_true z)
      have n0 : n = 0 := by omega
      subst n0
      have em := left_end okc hm (by rw [hn]; rfl)
      have em2 : m = prodM cs - 1 := by omega
      have eg : gl = [] := by
        rw [em2, go_last okc] at egl
        split at egl
        · cases k with
          | zero => exact (Option.some.inj egl).symm
          | succ k => cases egl
        · cases egl
      rw [eg, List.append_nil] at epl
      rw [epl] at hI7
      exact ⟨_, rfl, q _ I (sH5.trans s67) nIH hI7⟩
end
end UP

set_option Elab.async false
set_option linter.all false
set_option maxRecDepth 100000
set_option maxHeartbeats 4000000
set_option pp.maxSteps 600
namespace UP
open PySem PySem.Spec PyProof.Rows L2
theorem asc_pair {cs : List Run} : Asc cs ↔ cs.Pairwise fun x y => x.1.cps.toList < y.1.cps.toList := by
  constructor
  · intro h
    exact List.pairwise_iff_getElem.mpr fun i j hi hj lt => asc_lt h i j _ _ lt (List.getElem?_eq_getElem hi) (List.getElem?_eq_getElem hj)
  · intro h i x y hx hy
    obtain ⟨h1, e1⟩ := List.getElem?_eq_some_iff.mp hx
    obtain ⟨h2, e2⟩ := List.getElem?_eq_some_iff.mp hy
    have := List.pairwise_iff_getElem.mp h i (i + 1) h1 h2 (Nat.lt_succ_self i)
    rw [e1, e2] at this
    exact this
theorem ct_sub {fs cs : List Run} (h : fs.Sublist cs) (ok : CtOk cs) : CtOk fs :=
  ⟨Nat.le_trans h.length_le ok.1, fun r hr => ok.2.1 r (h.subset hr), asc_pair.mpr ((asc_pair.mp ok.2.2).sublist h)⟩
theorem sum_lenX : ∀ rs : List Run, (rs.map (·.2)).sum = lenR rs
  | [] => rfl
  | r :: t => by
    rw [List.map_cons, List.sum_cons, sum_lenX t, lenR_cons]
section
variable {P : Program} {w : World} {K : PySem.W.Frag} {mg : Str → Option Value} {base : Heap}
end
end UP

set_option Elab.async false
set_option linter.all false
set_option maxRecDepth 100000
set_option maxHeartbeats 4000000
set_option pp.maxSteps 600
namespace UP
open PySem PySem.Spec PyProof.Rows L2
theorem left_nil (cs : List Run) : leftL cs [] = cs.map (·.2) := List.map_congr_left fun r _ => by show r.2 - ((0 : Nat) : Int) = r.2; omega
theorem rc_zero {cs : List Run} (pos : ∀ r ∈ cs, 1 ≤ r.2) {p : KY} : Rc cs 0 p ↔ p = (cs.map (·.2), none) := by
  constructor
  · rintro ⟨l, e, _, rfl⟩
    rw [List.eq_nil_of_length_eq_zero e, left_nil]
    rfl
  · rintro rfl
    exact ⟨[], rfl, ⟨fun x h => (by cases h), fun r hr => by have := pos r hr; show ((0 : Nat) : Int) ≤ r.2; omega⟩, by rw [left_nil]; rfl⟩
theorem catA_of {K : PySem.W.Frag} {H : Hp} {a b : Addr} {xs ys : List V} {Q : VK} (ha : H a = some (.tup xs)) (hb : H b = some (.tup ys)) (l : xs.length + ys.length ≤ sizeLine) (q : ∀ H' c, Same H H' → H' c = some (.tup (xs ++ ys)) → Q (.ref c) H') : rCatA K (.ref a) (.ref b) H Q := by
  refine ⟨a, b, xs, ys, rfl, rfl, .of ha, .of hb, l, fun e => q H b (Same.refl _) (by rw [e]; exact hb), fun _ e => q H a (Same.refl _) (by rw [e, List.append_nil]; exact ha), fun _ _ p np => q _ p (same_upd np) upd_same⟩
theorem cut_dropX (xs : List V) (r : Nat) (h1 : r ≤ xs.length) : cutV xs (some (r : Int)) none = xs.drop r := by
  unfold cutV
  rw [HT.sIx_none, HT.sIx_nat, Nat.min_eq_left h1]
  exact List.take_of_length_le (by rw [List.length_drop]; exact Nat.le_refl _)
theorem noTup_df {w : World} {H : Hp} {p : Addr} {rows : List RowX} {o : Obj} (h : H p = some (DF w p rows o)) : NoTup H p := fun ys z => by rw [h] at z; cases z
section
variable {P : Program} {w : World} {K : PySem.W.Frag} {mg : Str → Option Value} {base : Heap}
end
end UP

set_option Elab.async false
set_option linter.all false
set_option maxRecDepth 100000
set_option maxHeartbeats 4000000
set_option pp.maxSteps 600
namespace UP
open PySem PySem.Spec PyProof.Rows L2
/-! ### the states that can remain, one by one -/
def rgL (cs : List Run) (k : Str) : List (Option Run) := match rgO cs k with
  | none => []
  | some (x, y) => (List.range ((y - x) / 2 + 1).toNat).map fun j : Nat => some (k, x + 2 * (j : Int))
theorem rgO_some {cs : List Run} {k : Str} {x y : Int} (h : rgO cs k = some (x, y)) : x = leR cs k ∧ y = moR cs k ∧ leR cs k ≤ moR cs k := by
  unfold rgO at h
  split at h
  · next c =>
    cases h
    exact ⟨rfl, rfl, c⟩
  · cases h
theorem rgL_len (cs : List Run) (k : Str) : ((rgL cs k).length : Int) = cntR cs k := by
  unfold rgL cntR
  cases e : rgO cs k with
  | none => rfl
  | some p =>
    obtain ⟨x, y⟩ := p
    obtain ⟨rfl, rfl, c⟩ := rgO_some e
    show (((List.range _).map _).length : Int) = _
    rw [List.length_map, List.length_range]
    show _ = (moR cs k - leR cs k) / 2 + 1
    omega
theorem rgL_mem {cs : List Run} (pos : ∀ r ∈ cs, 1 ≤ r.2) (asc : Asc cs) {r : Run} (hr : r ∈ cs) {s : Option Run} : s ∈ rgL cs r.1 ↔ ∃ n, s = some (r.1, n) ∧ 1 ≤ n ∧ CanR cs (some (r.1, n)) := by
  obtain ⟨pre, post, sp⟩ := split_of asc hr
  have l1 := le_pos (cs := cs) (k := r.1)
  have p1 := le_par (cs := cs) (k := r.1)
  have p2 := mo_par (cs := cs) (k := r.1)
  unfold rgL
  constructor
  · intro h
    cases e : rgO cs r.1 with
    | none => rw [e] at h; cases h
    | some p =>
      obtain ⟨x, y⟩ := p
      rw [e] at h
      obtain ⟨rfl, rfl, c⟩ := rgO_some e
      obtain ⟨j, hj, rfl⟩ := List.mem_map.mp h
      have hj := List.mem_range.mp hj
      exact ⟨_, rfl, by omega, (sp.range pos (by omega)).mpr ⟨by omega, by omega, by omega⟩⟩
  · rintro ⟨n, rfl, n1, c⟩
    obtain ⟨c1, c2, c3⟩ := (sp.range pos n1).mp c
    have e : rgO cs r.1 = some (leR cs r.1, moR cs r.1) := if_pos (by omega)
    rw [e]
    refine List.mem_map.mpr ⟨((n - leR cs r.1) / 2).toNat, List.mem_range.mpr (by omega), ?_⟩
    congr 2
    omega
theorem rgL_nodup (cs : List Run) (k : Str) : (rgL cs k).Nodup := by
  unfold rgL
  cases rgO cs k with
  | none => exact List.nodup_nil
  | some p =>
    refine List.pairwise_map.mpr (List.Pairwise.imp (fun {a b} lt e => ?_) List.pairwise_lt_range)
    have := congrArg Prod.snd (Option.some.inj e)
    have this : p.1 + 2 * (a : Int) = p.1 + 2 * (b : Int) := this
    omega
noncomputable def allS (cs : List Run) : List (Option Run) := by
  classical exact (if CanR cs none then [none] else []) ++ cs.flatMap fun r => rgL cs r.1
theorem allS_len (cs : List Run) : ((allS cs).length : Int) = c1R cs + (cs.map fun r => cntR cs r.1).sum := by
  classical
  unfold allS
  rw [List.length_append]
  have h1 : (((if CanR cs none then [none] else ([] : List (Option Run))).length : Nat) : Int) = c1R cs := by
    by_cases c : CanR cs none
    · rw [if_pos c, c1_yes c]
      rfl
    · rw [if_neg c, c1_no c]
      rfl
  have h2 : ∀ l : List Run, (((l.flatMap fun r => rgL cs r.1).length : Nat) : Int) = (l.map fun r => cntR cs r.1).sum := by
    intro l
    induction l with
    | nil => rfl
    | cons r t ih =>
      rw [List.flatMap_cons, List.length_append, List.map_cons, List.sum_cons, ← ih, ← rgL_len]
      omega
  have := h2 cs
  omega
theorem allS_mem {cs : List Run} (pos : ∀ r ∈ cs, 1 ≤ r.2) (asc : Asc cs) {s : Option Run} : s ∈ allS cs ↔ PosO s ∧ CanR cs s := by
  classical
  unfold allS
  rw [List.mem_append]
  cases s with
  | none =>
    constructor
    · rintro (h | h)
      · by_cases c : CanR cs none
        · exact ⟨fun r e => (by cases e), c⟩
        · rw [if_neg c] at h; cases h
      · obtain ⟨r, hr, hs⟩ := List.mem_flatMap.mp h
        obtain ⟨n, e, _⟩ := (rgL_mem pos asc hr).mp hs
        cases e
    · rintro ⟨_, c⟩
      rw [if_pos c]
      exact .inl (List.mem_singleton.mpr rfl)
  | some q =>
    constructor
    · rintro (h | h)
      · by_cases c : CanR cs none
        · rw [if_pos c] at h
          cases List.mem_singleton.mp h
        · rw [if_neg c] at h; cases h
      · obtain ⟨r, hr, hs⟩ := List.mem_flatMap.mp h
        obtain ⟨n, e, n1, c⟩ := (rgL_mem pos asc hr).mp hs
        cases e
        exact ⟨fun r e => (by cases e; exact n1), c⟩
    · rintro ⟨p, c⟩
      obtain ⟨r, hr, hk⟩ := List.mem_map.mp (c.1 q rfl)
      have hk : r.1 = q.1 := hk
      refine .inr (List.mem_flatMap.mpr ⟨r, hr, (rgL_mem pos asc hr).mpr ⟨q.2, ?_, p q rfl, ?_⟩⟩)
      · rw [hk]
      · rw [hk]
        exact c
theorem allS_nodup {cs : List Run} (pos : ∀ r ∈ cs, 1 ≤ r.2) (asc : Asc cs) : (allS cs).Nodup := by
  classical
  unfold allS
  refine List.nodup_append.mpr ⟨?_, List.pairwise_flatMap.mpr ⟨fun r _ => rgL_nodup cs r.1, ?_⟩, fun x hx y hy e => ?_⟩
  · by_cases c : CanR cs none
    · rw [if_pos c]
      exact List.nodup_cons.mpr ⟨List.not_mem_nil, List.nodup_nil⟩
    · rw [if_neg c]
      exact List.nodup_nil
  · refine List.pairwise_iff_getElem.mpr fun i j hi hj lt x hx y hy e => ?_
    have ne := asc_ne asc (Nat.ne_of_lt lt) (List.getElem?_eq_getElem hi) (List.getElem?_eq_getElem hj)
    obtain ⟨n, e1, _⟩ := (rgL_mem pos asc (List.getElem_mem hi)).mp hx
    obtain ⟨m, e2, _⟩ := (rgL_mem pos asc (List.getElem_mem hj)).mp hy
    rw [e1, e2] at e
    have e : ((cs[i]).1, n) = ((cs[j]).1, m) := Option.some.inj e
    exact ne (Prod.mk.inj e).1
  · subst e
    obtain ⟨r, hr, hs⟩ := List.mem_flatMap.mp hy
    obtain ⟨n, e, _⟩ := (rgL_mem pos asc hr).mp hs
    by_cases c : CanR cs none
    · rw [if_pos c] at hx
      rw [List.mem_singleton.mp hx] at e
      cases e
    · rw [if_neg c] at hx; cases hx
/-- the number of the states that can remain -/
theorem can_count {cs : List Run} {sts : List (Option Run)} (pos : ∀ r ∈ cs, 1 ≤ r.2) (asc : Asc cs) (nd : sts.Nodup) (mem : ∀ s, s ∈ sts ↔ PosO s ∧ CanR cs s) : ((sts.length : Nat) : Int) = c1R cs + (cs.map fun r => cntR cs r.1).sum := by
  rw [← allS_len]
  have h1 := nodup_subK sts (allS cs) nd fun s h => (allS_mem pos asc).mpr ((mem s).mp h)
  have h2 := nodup_subK (allS cs) sts (allS_nodup pos asc) fun s h => (mem s).mpr ((allS_mem pos asc).mp h)
  omega
theorem range_bd {cs : List Run} {k : Str} (ok : CtOk cs) (l10 : lenR cs < 10) (c : leR cs k ≤ moR cs k) : 1 ≤ leR cs k ∧ moR cs k < 10 := by
  have pos : ∀ r ∈ cs, 1 ≤ r.2 := fun r hr => (ok.2.1 r hr).2.1
  refine ⟨le_pos, ?_⟩
  have h1 := lg_nn cs k
  by_cases kin : k ∈ cs.map (·.1)
  · obtain ⟨r, hr, hk⟩ := List.mem_map.mp kin
    have hk : r.1 = k := hk
    subst hk
    obtain ⟨pre, post, sp⟩ := split_of ok.2.2 hr
    unfold moR
    split
    · omega
    · have : ownR cs r.1 = r.2 := sp.own
      have tot := sp.tot
      have a1 : 0 ≤ lenR pre := lenR_nn fun x hx => pos x (by rw [sp.eq]; exact List.mem_append_left _ hx)
      have a2 : 0 ≤ lenR post := lenR_nn fun x hx => pos x (by rw [sp.eq]; exact List.mem_append_right _ (List.mem_cons_of_mem _ hx))
      omega
  · have e := rg_other (k := k) ok fun r hr e => kin (List.mem_map.mpr ⟨r, hr, e⟩)
    unfold rgO at e
    rw [if_pos c] at e
    cases e
/-- the first and the last number of a kind -/
theorem range_ends {cs : List Run} {k : Str} {ns : List Int} (ok : CtOk cs) (l10 : lenR cs < 10) (up : ns.Pairwise (· < ·)) (mem : ∀ n, n ∈ ns ↔ 1 ≤ n ∧ n ≤ 10 ∧ CanR cs (some (k, n))) :
    (ns = [] ∧ rgO cs k = none) ∨ ∃ x y, atI (ns.map V.int) 0 = some (.int x) ∧ atI (ns.map V.int) (-1) = some (.int y) ∧ ns ≠ [] ∧ rgO cs k = some (x, y) := by
  have pos : ∀ r ∈ cs, 1 ≤ r.2 := fun r hr => (ok.2.1 r hr).2.1
  have asc := ok.2.2
  by_cases kin : k ∈ cs.map (·.1)
  · obtain ⟨r, hr, hk⟩ := List.mem_map.mp kin
    have hk : r.1 = k := hk
    subst hk
    obtain ⟨pre, post, sp⟩ := split_of asc hr
    have l1 := le_pos (cs := cs) (k := r.1)
    have p1 := le_par (cs := cs) (k := r.1)
    have p2 := mo_par (cs := cs) (k := r.1)
    have mo9 : moR cs r.1 ≤ lenR cs := by
      have h1 := lg_nn cs r.1
      unfold moR
      split
      · omega
      · have : ownR cs r.1 = r.2 := sp.own
        have tot := sp.tot
        have a1 : 0 ≤ lenR pre := lenR_nn fun x hx => pos x (by rw [sp.eq]; exact List.mem_append_left _ hx)
        have a2 : 0 ≤ lenR post := lenR_nn fun x hx => pos x (by rw [sp.eq]; exact List.mem_append_right _ (List.mem_cons_of_mem _ hx))
        omega
    have m2 : ∀ n, n ∈ ns ↔ leR cs r.1 ≤ n ∧ n ≤ moR cs r.1 ∧ (lenR cs - n) % 2 = 0 := fun n => by
      rw [mem n]
      constructor
      · rintro ⟨n1, _, c⟩
        exact (sp.range pos n1).mp c
      · rintro ⟨c1, c2, c3⟩
        exact ⟨by omega, by omega, (sp.range pos (by omega)).mpr ⟨c1, c2, c3⟩⟩
    by_cases c : leR cs r.1 ≤ moR cs r.1
    · right
      have hl := (m2 (leR cs r.1)).mpr ⟨Int.le_refl _, c, p1⟩
      have hm := (m2 (moR cs r.1)).mpr ⟨c, Int.le_refl _, p2⟩
      have n0 : 0 < ns.length := List.length_pos_of_mem hl
      have eg : ∀ (i : Nat) (hi : i < ns.length), leR cs r.1 ≤ ns[i] ∧ ns[i] ≤ moR cs r.1 := fun i hi => by
        have := (m2 _).mp (List.getElem_mem hi)
        exact ⟨this.1, this.2.1⟩
      have first : ns[0] = leR cs r.1 := by
        obtain ⟨i, hi, ei⟩ := List.mem_iff_getElem.mp hl
        have h1 := (eg 0 n0).1
        rcases Nat.eq_zero_or_pos i with z | z
        · subst z
          exact ei
        · have := List.pairwise_iff_getElem.mp up 0 i n0 hi z
          omega
      have last : ns[ns.length - 1] = moR cs r.1 := by
        obtain ⟨i, hi, ei⟩ := List.mem_iff_getElem.mp hm
        have h1 := (eg (ns.length - 1) (by omega)).2
        by_cases z : i = ns.length - 1
        · subst z
          exact ei
        · have := List.pairwise_iff_getElem.mp up i (ns.length - 1) hi (by omega) (by omega)
          omega
      refine ⟨_, _, ?_, ?_, fun z => ?_, if_pos c⟩
      · exact atI_ofR (Int.le_refl _) (by
          show (ns.map V.int)[0]? = _
          rw [List.getElem?_map, List.getElem?_eq_getElem n0, first]
          rfl)
      · have e : ns = ns.dropLast ++ [moR cs r.1] := by
          have hne : ns ≠ [] := fun z => by rw [z] at n0; cases n0
          have := (List.dropLast_concat_getLast hne).symm
          rw [List.getLast_eq_getElem, last] at this
          exact this
        rw [e, List.map_append]
        exact atI_last _ _
      · rw [z] at n0; cases n0
    · left
      refine ⟨List.eq_nil_iff_forall_not_mem.mpr fun n hn => ?_, if_neg c⟩
      have := (m2 n).mp hn
      omega
  · left
    refine ⟨List.eq_nil_iff_forall_not_mem.mpr fun n hn => kin (((mem n).mp hn).2.2.1 _ rfl), ?_⟩
    exact rg_other ok fun r hr e => kin (List.mem_map.mpr ⟨r, hr, e⟩)
end UP

set_option Elab.async false
set_option linter.all false
set_option maxRecDepth 100000
set_option maxHeartbeats 4000000
set_option pp.maxSteps 600
namespace UP
open PySem PySem.Spec PyProof.Rows L2
theorem simR_seq {H : Hp} {p a : Addr} {rs : List Run} (z : Reel H p) (h : Runs H a rs) (l : rs.length ≤ 1000) : Sim (· ≠ p) H 2 (.ref a) (dSq rs) := by
  have na := z.runs_ne h
  obtain ⟨xs, hx, hp⟩ := h
  refine .inr ⟨a, xs, _, rfl, na, .inl hx, rfl, ?_, by rw [List.length_map]; exact l⟩
  have gen : ∀ {xs : List V} {rs : List Run}, Paired (RunV H) xs rs → Paired (Sim (· ≠ p) H 1) xs (rs.map dP) := by
    intro xs rs h
    induction h with
    | nil => exact .nil
    | cons h _ ih => exact .cons (simR_run z h) ih
  exact gen hp
theorem dps_runsN {K : PySem.W.Frag} {H : Hp} {v : V} {rs : List Run} (h : RunsG H v rs) (k : ∀ r ∈ rs, KindOk r.1 ∧ r.2.natAbs < 10 ^ 60) (l : rs.length ≤ 15) : ∃ d, DpS K H v d ∧ Nice 6075 2 d := by
  obtain ⟨a, xs, rfl, hx, hp⟩ := h
  have lx : xs.length = rs.length := Paired.len hp
  obtain ⟨d, h1, h2⟩ := dps_seq (K := K) (w := 404) (n := 1) hx fun x hx => by
    obtain ⟨i, hi, e⟩ := List.mem_iff_getElem.mp hx
    obtain ⟨r, er, hr⟩ := Paired.at hp (List.getElem?_eq_getElem hi)
    rw [e] at hr
    have := k r (List.mem_of_getElem? er)
    exact dps_run hr this.1 this.2
  exact ⟨d, h1, h2.mono (by rw [lx]; omega) (Nat.le_refl _)⟩
theorem nice_smi {i : Int} (h : i.natAbs < 10 ^ 6) : Nice 21 0 (.int i) := by
  have h2 : i.natAbs < 2 ^ 20 := Nat.lt_of_lt_of_le h (by decide)
  have h3 : i.natAbs.log2 < 20 := by
    by_cases z : i.natAbs = 0
    · rw [z]
      decide
    · exact (Nat.log2_lt z).mpr h2
  have hb := nice_int (i := i) (by omega)
  refine ⟨hb.can, hb.dep, hb.sho, hb.lea, ?_⟩
  rw [PyData.weight]
  split <;> omega
def DpB (K : PySem.W.Frag) (p : Addr) (H : Hp) (v : V) (d : PyData) : Prop := ∀ H', But p H H' → Dp K H' v d
theorem dpb_st {K : PySem.W.Frag} {H : Hp} {p : Addr} {v : V} {st : Option Run} (z : Reel H p) (h : StG H v st) (k : ∀ r, st = some r → KindOk r.1 ∧ r.2.natAbs < 10 ^ 60) : ∃ d, DpB K p H v d ∧ Nice 404 1 d := by
  cases st with
  | none =>
    cases h
    exact ⟨.none, fun _ _ => .non, nice_none.mono (by decide) (by decide)⟩
  | some r =>
    obtain ⟨t, rfl, ht⟩ := h
    obtain ⟨_, _, _, _, _, _, hp, _⟩ := z
    have it : ∀ d ∈ [PyData.str r.1, .int r.2], Nice 201 0 d := fun d hd => by
      rcases List.mem_cons.mp hd with e | e
      · rw [e]
        exact (nice_str (k r rfl).1).mono (by decide) (by decide)
      · rw [List.mem_singleton.mp e]
        exact nice_int (k r rfl).2
    rcases ht with y | y
    · exact ⟨.list [.str r.1, .int r.2], fun H' b => .lst (.of (b _ _ (ne_of y hp (by intro q; cases q)) y)) (.cons (.str _) (.cons (.int _) .nil)), (nice_list it).mono (by show (201 + 1) * 2 ≤ 404; decide) (by decide)⟩
    · exact ⟨.tuple [.str r.1, .int r.2], fun H' b => .tup (.of (b _ _ (ne_of y hp (by intro q; cases q)) y)) (.cons (.str _) (.cons (.int _) .nil)), (nice_tup it).mono (by show (201 + 1) * 2 ≤ 404; decide) (by decide)⟩
theorem sts_ne {H : Hp} {p a : Addr} {xs : List V} {es : List (Option Run)} (z : Reel H p) (hx : Sq2 H a xs) (hp : Paired (StG H) xs es) : a ≠ p := by
  obtain ⟨g, c, _, _, n, s, hz, _⟩ := z
  intro e
  subst e
  rcases hx with y | y
  · rw [hz] at y
    cases y
    cases hp with
    | cons _ hp =>
      cases hp with
      | cons _ hp =>
        cases hp with
        | cons h _ =>
          rename_i st _ _
          cases st with
          | none => cases h
          | some r =>
            obtain ⟨_, e, _⟩ := h
            cases e
  · rw [hz] at y
    cases y
theorem dpb_runSm {K : PySem.W.Frag} {H : Hp} {p : Addr} {v : V} {r : Run} (z : Reel H p) (h : RunG H v r) (k : KindOk r.1 ∧ r.2.natAbs < 10 ^ 6) : ∃ d, DpB K p H v d ∧ Nice 44 1 d := by
  obtain ⟨t, rfl, ht⟩ := h
  obtain ⟨_, _, _, _, _, _, hp, _⟩ := z
  have it : ∀ d ∈ [PyData.str r.1, .int r.2], Nice 21 0 d := fun d hd => by
    rcases List.mem_cons.mp hd with e | e
    · rw [e]
      exact (nice_str k.1).mono (by decide) (by decide)
    · rw [List.mem_singleton.mp e]
      exact nice_smi k.2
  rcases ht with y | y
  · exact ⟨.list [.str r.1, .int r.2], fun H' b => .lst (.of (b _ _ (ne_of y hp (by intro q; cases q)) y)) (.cons (.str _) (.cons (.int _) .nil)), (nice_list it).mono (by show (21 + 1) * 2 ≤ 44; decide) (by decide)⟩
  · exact ⟨.tuple [.str r.1, .int r.2], fun H' b => .tup (.of (b _ _ (ne_of y hp (by intro q; cases q)) y)) (.cons (.str _) (.cons (.int _) .nil)), (nice_tup it).mono (by show (21 + 1) * 2 ≤ 44; decide) (by decide)⟩
theorem dpb_allR {K : PySem.W.Frag} {H : Hp} {p : Addr} (z : Reel H p) : ∀ {xs : List V} {rs : List Run}, Paired (RunG H) xs rs → (∀ r ∈ rs, KindOk r.1 ∧ r.2.natAbs < 10 ^ 6) → ∃ ds, (∀ H', But p H H' → DpAll K H' xs ds) ∧ ds.length = rs.length ∧ ∀ d ∈ ds, Nice 44 1 d
  | _, _, .nil, _ => ⟨[], fun _ _ => .nil, rfl, fun d h => by cases h⟩
  | _, _, .cons h t, k => by
    obtain ⟨d, h1, h2⟩ := dpb_runSm (K := K) z h (k _ (List.mem_cons_self ..))
    obtain ⟨ds, g1, g2, g3⟩ := dpb_allR (K := K) z t fun e he => k e (List.mem_cons_of_mem _ he)
    refine ⟨d :: ds, fun H' b => .cons (h1 H' b) (g1 H' b), by rw [List.length_cons, List.length_cons, g2], fun x hx => ?_⟩
    rcases List.mem_cons.mp hx with e | e
    · rw [e]
      exact h2
    · exact g3 x e
theorem runsg_ne {H : Hp} {p a : Addr} {xs : List V} {rs : List Run} (z : Reel H p) (hx : Sq2 H a xs) (hp : Paired (RunG H) xs rs) : a ≠ p := by
  obtain ⟨g, c, _, _, n, s, hz, _⟩ := z
  intro e
  subst e
  rcases hx with y | y
  · rw [hz] at y
    cases y
    cases hp with
    | cons _ hp =>
      cases hp with
      | cons _ hp =>
        cases hp with
        | cons h _ =>
          obtain ⟨_, e, _⟩ := h
          cases e
  · rw [hz] at y
    cases y
theorem pair_ne {H : Hp} {p a : Addr} {x y : V} (z : Reel H p) (hx : Sq2 H a [x, y]) : a ≠ p := by
  obtain ⟨g, c, _, _, n, s, hz, _⟩ := z
  intro e
  subst e
  rcases hx with w | w
  · rw [hz] at w
    cases w
  · rw [hz] at w
    cases w
theorem dpb_runsSm {K : PySem.W.Frag} {H : Hp} {p : Addr} {v : V} {rs : List Run} (z : Reel H p) (h : RunsG H v rs) (k : ∀ r ∈ rs, KindOk r.1 ∧ r.2.natAbs < 10 ^ 6) (l : rs.length ≤ 400) : ∃ d, DpB K p H v d ∧ Nice 18000 2 d := by
  obtain ⟨a, xs, rfl, hx, hp⟩ := h
  have ne := runsg_ne z hx hp
  obtain ⟨ds, g1, g2, g3⟩ := dpb_allR (K := K) z hp k
  have w : (44 + 1) * ds.length ≤ 18000 := by omega
  rcases hx with y | y
  · exact ⟨.list ds, fun H' b => .lst (.of (b _ _ ne y)) (g1 H' b), (nice_list g3).mono w (Nat.le_refl _)⟩
  · exact ⟨.tuple ds, fun H' b => .tup (.of (b _ _ ne y)) (g1 H' b), (nice_tup g3).mono w (Nat.le_refl _)⟩
theorem dpb_pair {K : PySem.W.Frag} {H : Hp} {p a : Addr} {x y : V} {d e : PyData} {w n : Nat} (z : Reel H p) (h : Sq2 H a [x, y]) (hx : DpB K p H x d) (hy : DpB K p H y e) (nx : Nice w n d) (ny : Nice w n e) : ∃ q, DpB K p H (.ref a) q ∧ Nice ((w + 1) * 2) (n + 1) q := by
  have ne := pair_ne z h
  have it : ∀ u ∈ [d, e], Nice w n u := fun u hu => by
    rcases List.mem_cons.mp hu with z | z
    · rw [z]; exact nx
    · rw [List.mem_singleton.mp z]; exact ny
  rcases h with y | y
  · exact ⟨.list [d, e], fun H' b => .lst (.of (b _ _ ne y)) (.cons (hx H' b) (.cons (hy H' b) .nil)), nice_list it⟩
  · exact ⟨.tuple [d, e], fun H' b => .tup (.of (b _ _ ne y)) (.cons (hx H' b) (.cons (hy H' b) .nil)), nice_tup it⟩
theorem RunsG.rbX {p : Addr} {H H' : Hp} {v : V} {rs : List Run} (b : RB p H H') (z : Reel H p) (h : RunsG H v rs) : RunsG H' v rs := by
  obtain ⟨a, xs, e, hx, hp⟩ := h
  have ne := runsg_ne z hx hp
  have hz := z
  obtain ⟨_, _, _, _, _, _, hz, _⟩ := hz
  refine ⟨a, xs, e, hx.elim (fun y => .inl (b.but _ _ ne y)) (fun y => .inr (b.but _ _ ne y)), Paired.imp (fun _ _ g => ?_) hp⟩
  obtain ⟨t, e, ht⟩ := g
  exact ⟨t, e, ht.elim (fun y => .inl (b.but _ _ (ne_of y hz (by intro q; cases q)) y)) (fun y => .inr (b.but _ _ (ne_of y hz (by intro q; cases q)) y))⟩
theorem le_len : ∀ (rs : List Run), (∀ r ∈ rs, 1 ≤ r.2) → ∀ r ∈ rs, r.2 ≤ lenR rs
  | [], _, r, h => by cases h
  | x :: t, k, r, h => by
    have kt : ∀ y ∈ t, 1 ≤ y.2 := fun y hy => k y (List.mem_cons_of_mem _ hy)
    have := lenR_nn kt
    have := k x (List.mem_cons_self ..)
    rw [lenR_cons]
    rcases List.mem_cons.mp h with e | e
    · rw [e]
      omega
    · have := le_len t kt r e
      omega
def kdsL (cs : List Run) : List Str := cs.map (fun r => r.1) ++ [("other" : Str)]
theorem kds_map (cs : List Run) : (cs.map (fun r : Run => r.1)).map V.str ++ [V.str "other"] = (kdsL cs).map V.str := by
  unfold kdsL
  rw [List.map_append]
  rfl
theorem op_inDK {X : Cx} {K : PySem.W.Frag} (h : X.K = K) (hu : X.A.units + 65 < cLine) : OpR X (compareOp .In) (rInD K) := h ▸ op_inD hu
theorem other_ok : KindOk "other" := by decide +kernel
theorem RB.stsX {p : Addr} {H H' : Hp} {xs : List V} {es : List (Option Run)} (b : RB p H H') (z : Reel H p) (h : Paired (StV H) xs es) : Paired (StV H') xs es := Paired.imp (fun _ _ s => b.st z s) h
theorem dp_all_st {K : PySem.W.Frag} {H : Hp} : ∀ {xs : List V} {es : List (Option Run)}, Paired (StV H) xs es → DpAll K H xs (es.map dOt)
  | _, _, .nil => .nil
  | _, _, .cons h t => .cons (dp_o h) (dp_all_st t)
theorem shaped_stX {es : List (Option Run)} (h : ∀ e ∈ es, StOk e) : SeqAt.shaped (.list (es.map dOt)) = true := by
  have c : PyData.canLayAll0 (es.map dOt) = true ∧ PyData.depthAll (es.map dOt) ≤ 2 := by
    induction es with
    | nil => exact ⟨rfl, Nat.zero_le _⟩
    | cons e t ih =>
      obtain ⟨i1, i2⟩ := ih fun x hx => h x (List.mem_cons_of_mem _ hx)
      have he : (dOt e).canLay0 = true ∧ (dOt e).depth ≤ 2 := by
        cases e with
        | none => exact ⟨rfl, Nat.zero_le _⟩
        | some r => exact ⟨can_run (h _ (List.mem_cons_self ..) r rfl).1, depth_run r⟩
      constructor
      · rw [List.map_cons, PyData.canLayAll0, he.1, i1]
        rfl
      · rw [List.map_cons, PyData.depthAll]
        exact Nat.max_le.mpr ⟨he.2, i2⟩
  unfold SeqAt.shaped
  rw [PyData.canLay0, c.1, PyData.depth]
  have := c.2
  exact decide_eq_true (by omega)
theorem dp_intsX {K : PySem.W.Frag} {H : Hp} : ∀ l : List Int, DpAll K H (l.map V.int) (l.map PyData.int)
  | [] => .nil
  | x :: t => .cons (.int x) (dp_intsX t)
theorem eqv_nilX (l : List Int) : PyData.eqv (.list (l.map PyData.int)) (.list []) = decide (l = []) := by
  cases l with
  | nil =>
    rw [decide_eq_true rfl]
    rfl
  | cons r t =>
    rw [decide_eq_false (by simp), List.map_cons, PyData.eqv, PyData.eqvAll]
theorem any_st (sts : List (Option Run)) (s : Option Run) : (sts.map dOt).any (fun z => PyData.eqv z (dOt s)) = decide (s ∈ sts) := by
  induction sts with
  | nil => rfl
  | cons e t ih =>
    rw [List.map_cons, List.any_cons, ih, eqv_o]
    by_cases c : e = s
    · rw [decide_eq_true c, Bool.true_or, decide_eq_true (by rw [c]; exact List.mem_cons_self ..)]
    · rw [decide_eq_false c, Bool.false_or]
      by_cases m : s ∈ t
      · rw [decide_eq_true m, decide_eq_true (List.mem_cons_of_mem _ m)]
      · rw [decide_eq_false m, decide_eq_false]
        intro z
        rcases List.mem_cons.mp z with z | z
        · exact c z.symm
        · exact m z
/-- None or a pair of numbers -/
def DuV (H : Hp) (v : V) : Option (Int × Int) → Prop
  | none => v = .non
  | some p => ∃ t, v = .ref t ∧ H t = some (.tup [.int p.1, .int p.2])
theorem DuV.same {H H' : Hp} {v : V} {o : Option (Int × Int)} (s : Same H H') (h : DuV H v o) : DuV H' v o := by
  cases o with
  | none => exact h
  | some p =>
    obtain ⟨t, e, ht⟩ := h
    exact ⟨t, e, s _ _ ht⟩
def dU : Option (Int × Int) → PyData
  | none => .none
  | some p => .tuple [.int p.1, .int p.2]
theorem dp_u {K : PySem.W.Frag} {H : Hp} {v : V} {o : Option (Int × Int)} (h : DuV H v o) : Dp K H v (dU o) := by
  cases o with
  | none =>
    cases h
    exact .non
  | some p =>
    obtain ⟨t, rfl, ht⟩ := h
    exact .tup (.of ht) (.cons (.int _) (.cons (.int _) .nil))
theorem nice_u {o : Option (Int × Int)} (h : ∀ p, o = some p → p.1.natAbs < 10 ^ 60 ∧ p.2.natAbs < 10 ^ 60) : Nice 1000 2 (.list [dU o, dU o]) := by
  have one : Nice 404 1 (dU o) := by
    cases o with
    | none => exact nice_none.mono (by decide) (by decide)
    | some p =>
      obtain ⟨h1, h2⟩ := h p rfl
      refine (nice_tup (w := 201) (n := 0) (ds := [.int p.1, .int p.2]) fun d hd => ?_).mono (by show (201 + 1) * 2 ≤ 404; decide) (Nat.le_refl _)
      rcases List.mem_cons.mp hd with e | e
      · rw [e]
        exact nice_int h1
      · rw [List.mem_singleton.mp e]
        exact nice_int h2
  refine (nice_list (w := 404) (n := 1) (ds := [dU o, dU o]) fun d hd => ?_).mono (by show (404 + 1) * 2 ≤ 1000; decide) (Nat.le_refl _)
  rcases List.mem_cons.mp hd with e | e
  · rw [e]
    exact one
  · rw [List.mem_singleton.mp e]
    exact one
theorem nice_bb (b : Bool) : Nice 100 1 (.list [.bool b, .bool b]) := by
  have one : Nice 5 0 (.bool b) := by cases b <;> exact ⟨rfl, by decide, rfl, rfl, by decide +kernel⟩
  refine (nice_list (w := 5) (n := 0) (ds := [.bool b, .bool b]) fun d hd => ?_).mono (by show (5 + 1) * 2 ≤ 100; decide) (Nat.le_refl _)
  rcases List.mem_cons.mp hd with e | e
  · rw [e]
    exact one
  · rw [List.mem_singleton.mp e]
    exact one
open Classical in
noncomputable def canB (cs : List Run) (st : Option Run) : Bool := if CanR cs st then true else false
theorem canB_yes {cs : List Run} {st : Option Run} (h : CanR cs st) : canB cs st = true := by
  unfold canB
  rw [if_pos h]
theorem canB_no {cs : List Run} {st : Option Run} (h : ¬ CanR cs st) : canB cs st = false := by
  unfold canB
  rw [if_neg h]
theorem canB_is {cs : List Run} {st : Option Run} {b : Bool} (h : b = true ↔ CanR cs st) : canB cs st = b := by
  cases b with
  | true => exact canB_yes (h.mp rfl)
  | false => exact canB_no fun c => by cases h.mpr c
def sp_canB : Sp := fun vs H Q _ => ∃ (v u : V) (cs : List Run) (st : Option Run), vs = [v, u] ∧ RunsG H v cs ∧ CtOk cs ∧ StG H u st ∧ StOk st ∧ ∀ H', Same H H' → Q (.bl (canB cs st)) H'
theorem canB_imp {vs : List V} {H : Hp} {Q : VK} {E : XK} (h : sp_canB vs H Q E) : sp_can_remain vs H Q E := by
  obtain ⟨v, u, cs, st, rfl, h1, h2, h3, h4, q⟩ := h
  refine ⟨v, u, cs, st, rfl, h1, h2, h3, h4, fun c H' s => ?_, fun c H' s => ?_⟩
  · have := q H' s
    rw [canB_yes c] at this
    exact this
  · have := q H' s
    rw [canB_no c] at this
    exact this
def sp_rrU : Sp := fun vs H Q _ => ∃ (v : V) (cs : List Run) (k : Str), vs = [v, .str k] ∧ RunsG H v cs ∧ CtOk cs ∧ KindOk k ∧ ∀ H' v', Same H H' → DuV H' v' (rgO cs k) → Q v' H'
theorem rrU_imp {vs : List V} {H : Hp} {Q : VK} {E : XK} (h : sp_rrU vs H Q E) : sp_remaining_range vs H Q E := by
  obtain ⟨v, cs, k, rfl, h1, h2, h3, q⟩ := h
  refine ⟨v, cs, k, rfl, h1, h2, h3, fun e H' s => ?_, fun x y e H' t s ht => ?_⟩
  · exact q H' _ s (by rw [e]; rfl)
  · exact q H' _ s (by rw [e]; exact ⟨t, rfl, ht⟩)
theorem Has.canB {P : Program} {w : World} {K : PySem.W.Frag} {mg : Str → Option Value} {base : Heap} (G : Has P w K mg base 7 "can_remain" ["counts", "state"] sp_can_remain) : Has P w K mg base 7 "can_remain" ["counts", "state"] sp_canB := by
  obtain ⟨f, fd, g, kp, b, F⟩ := G
  exact ⟨f, fd, g, kp, b, F.imp fun vs H Q E h => canB_imp h⟩
theorem Has.rrU {P : Program} {w : World} {K : PySem.W.Frag} {mg : Str → Option Value} {base : Heap} (G : Has P w K mg base 6 "remaining_range" ["counts", "kind"] sp_remaining_range) : Has P w K mg base 6 "remaining_range" ["counts", "kind"] sp_rrU := by
  obtain ⟨f, fd, g, kp, b, F⟩ := G
  exact ⟨f, fd, g, kp, b, F.imp fun vs H Q E h => rrU_imp h⟩
end UP

set_option Elab.async false
set_option linter.all false
set_option maxRecDepth 100000
set_option maxHeartbeats 4000000
set_option pp.maxSteps 700
namespace UP
open PySem PySem.Spec PyProof.Rows L2
/-! ### xs.count(y) of texts -/
def eqs (k : Str) (v : Value) : Bool := match v with
  | .str z _ => z == k
  | _ => false
def rCntS (K : PySem.W.Frag) : V → List V → Hp → VK → Prop := fun x xs H Q => ∃ (p : Addr) (ns : List Str) (k : Str), x = .ref p ∧ xs = [.str k] ∧ SqL K H p (ns.map V.str) ∧ Q (.int (ns.count k : Nat)) H
theorem strs_vals : ∀ {ns : List Str} {us : List Value}, Vals (ns.map V.str) us → (∀ y ∈ us, ∃ z t, y = .str z t) ∧ ∀ k, us.countP (eqs k) = ns.count k
  | [], _, .nil => ⟨fun y h => (by cases h), fun k => rfl⟩
  | z :: t, _, .cons ⟨tk, e⟩ r => by
    obtain ⟨h1, h2⟩ := strs_vals r
    subst e
    refine ⟨fun y hy => ?_, fun k => ?_⟩
    · rcases List.mem_cons.mp hy with e | e
      · exact ⟨z, tk, e⟩
      · exact h1 y e
    · rw [List.countP_cons, h2 k, List.count_cons]
      rfl
theorem mt_lcountS {X : Cx} : MtR X "list.count" (rCntS X.K) := by
  intro pins s σ H x xs v us Q I rx rxs h
  obtain ⟨p, ns, k, rfl, rfl, hs, q⟩ := h
  cases rx
  obtain ⟨u, rfl, ru⟩ := rxs.one
  obtain ⟨t, rfl⟩ := ru
  obtain ⟨its, rv, ⟨⟨cls, dd, data, sl⟩, n, ho, hc, hdn, hd⟩, hlen⟩ := I.list hs
  simp only at hc hd
  subst hc hd
  obtain ⟨h1, h2⟩ := strs_vals rv
  refine call_meets PySem.F.slot_list_count ⟨_, ho, rfl⟩ PySem.F.entry_list_count (PySem.F.args_list_count_2 _ _)
    (SeqAt.list_countAt p its.toArray n dd sl (.str k t) (eqs k)) ⟨ho, fun y hy => ?_, ?_⟩
  · obtain ⟨z, tz, rfl⟩ := h1 y (by simpa using hy)
    exact SeqAt.EqAt.str_str z tz k t
  have ec : its.toArray.toList.countP (eqs k) = ns.count k := h2 k
  refine ⟨.int (ns.count k : Nat), H, I.tok _, ⟨s.toks, ?_⟩, q⟩
  show Value.int ((its.toArray.toList.countP (eqs k) : Nat) : Int) s.toks = Value.int ((ns.count k : Nat) : Int) s.toks
  rw [ec]
theorem mt_countSK {X : Cx} {K : PySem.W.Frag} (h : X.K = K) : MtR X "list.count" (rCntS K) := h ▸ mt_lcountS
/-- lists of texts, one object each -/
def LsV (H : Hp) (x : V) (l : List Str) : Prop := ∃ b, x = .ref b ∧ H b = some (.lst (l.map V.str))
theorem LsV.same {H H' : Hp} {x : V} {l : List Str} (s : Same H H') (h : LsV H x l) : LsV H' x l := by
  obtain ⟨b, rfl, hb⟩ := h
  exact ⟨b, rfl, s _ _ hb⟩
theorem LsV.tups {H H' : Hp} {x : V} {l : List Str} {a : Addr} {o : HO} (e : H' = upd H a o) (n : x ≠ .ref a) (h : LsV H x l) : LsV H' x l := by
  obtain ⟨b, rfl, hb⟩ := h
  refine ⟨b, rfl, ?_⟩
  rw [e, upd_ne (fun z => n (by rw [z]))]
  exact hb
theorem paired_inX {α β : Type} {F G : α → β → Prop} {xs : List α} {ys : List β} (h : Paired F xs ys) (k : ∀ x y, x ∈ xs → F x y → G x y) : Paired G xs ys := by
  induction h with
  | nil => exact .nil
  | cons a _ ih => exact .cons (k _ _ (List.mem_cons_self ..) a) (ih fun x y hx => k x y (List.mem_cons_of_mem _ hx))
theorem ext_len {cs : List Run} (l4 : cs.length ≤ 4) (p : List Str) : (extR cs p).length ≤ 4 := by
  unfold extR
  rw [List.length_map]
  exact Nat.le_trans (List.length_filter_le ..) l4
theorem flat_le {cs : List Run} (l4 : cs.length ≤ 4) : ∀ L : List (List Str), (L.flatMap (extR cs)).length ≤ L.length * 4
  | [] => Nat.le_refl _
  | p :: t => by
    rw [List.flatMap_cons, List.length_append, List.length_cons, Nat.add_mul, Nat.one_mul]
    have := ext_len l4 p
    have := flat_le l4 t
    omega
theorem fr_len {cs : List Run} (l4 : cs.length ≤ 4) : ∀ m, (frL cs m).length ≤ 4 ^ m
  | 0 => Nat.le_refl _
  | m + 1 => by
    have := flat_le l4 (frL cs m)
    have := fr_len l4 m
    show ((frL cs m).flatMap (extR cs)).length ≤ _
    rw [Nat.pow_succ]
    omega
theorem fr_word {cs : List Run} : ∀ (m : Nat) {l : List Str}, l ∈ frL cs m → l.length = m
  | 0, l, h => by rw [List.mem_singleton.mp h]; rfl
  | m + 1, l, h => by
    obtain ⟨p, hp, h⟩ := List.mem_flatMap.mp h
    obtain ⟨r, _, rfl⟩ := List.mem_map.mp h
    rw [List.length_append, fr_word m hp]
    rfl
section
variable {P : Program} {w : World} {K : PySem.W.Frag} {mg : Str → Option Value} {base : Heap}
end
end UP

set_option Elab.async false
set_option linter.all false
set_option maxRecDepth 100000
set_option maxHeartbeats 4000000
set_option pp.maxSteps 700
namespace UP
open PySem PySem.Spec PyProof.Rows L2
section
variable {P : Program} {w : World} {K : PySem.W.Frag} {mg : Str → Option Value} {base : Heap}
end
end UP

set_option Elab.async false
set_option linter.all false
set_option maxRecDepth 100000
set_option maxHeartbeats 4000000
set_option pp.maxSteps 600
namespace UP
open PySem PySem.Spec PyProof.Rows L2
/-- a pair of a state and a number -/
def EnT (H : Hp) (x : V) (e : Option Run × Int) : Prop := ∃ (a : Addr) (v : V), x = .ref a ∧ H a = some (.tup [v, .int e.2]) ∧ StV H v e.1
def dStK : Option Run → PyData
  | none => .tuple []
  | some r => .tuple [.str r.1, .int r.2]
/-- what decides which of them comes first -/
def dRk (e : Option Run × Int) : PyData := .tuple [.int (-e.2), dStK e.1]
def sp_rank_of : Sp := fun vs H Q _ => ∃ (a : Addr) (v : V) (n : Int), vs = [.ref a] ∧ H a = some (.tup [v, .int n]) ∧ (v = .non ∨ ∃ q, v = .ref q) ∧
  ∀ H' p y, H p = none → H' p = some (.tup [.int (-n), y]) → ((v = .non ∧ ∃ u, y = .ref u ∧ H u = none ∧ H' u = some (.tup [])) ∨ (v ≠ .non ∧ y = v)) → Q (.ref p) H'
def ltRk (es : List (Option Run × Int)) (i j : Nat) : Bool := PySem.W.dataLt (dRk ((es[i]?).getD (none, 0))) (dRk ((es[j]?).getD (none, 0)))
/-- min(xs, key=rank_of) of pairs -/
def rMinR : List V → Hp → VK → Prop := fun vs H Q => ∃ (a : Addr) (xs : List V) (es : List (Option Run × Int)), vs = [.ref a] ∧ H a = some (.lst xs) ∧ 0 < xs.length ∧ Paired (EnT H) xs es ∧
  ∀ i x, i < xs.length → xs[i]? = some x → i = argBest (ltRk es) (xs.length - 1) → Q x H
theorem alike_rk (a b : Option Run × Int) : PySem.W.alike (dRk a) (dRk b) = true := by
  obtain ⟨s, n⟩ := a
  obtain ⟨t, m⟩ := b
  cases s with
  | none => cases t <;> rfl
  | some r => cases t <;> rfl
theorem depth_rk (a : Option Run × Int) : (dRk a).depth ≤ 60 := by
  obtain ⟨s, n⟩ := a
  cases s with
  | none => simp [dRk, dStK, PyData.depth, PyData.depthAll]
  | some r => simp [dRk, dStK, PyData.depth, PyData.depthAll]
/-- the key's own object, and the state's -/
def StAt (s : Shared) (y : Value) (g : Addr → Prop) (st : Option Run) : Prop := ∃ (q : Addr) (o : Obj) (vs : Array Value) (n : Nat), y = .ref q ∧ g q ∧ s.heap.get? q = some o ∧ o.cls = .type "tuple" ∧ o.data = .seq vs n ∧
  match st with
  | none => vs = #[]
  | some r => ∃ t u, vs = #[.str r.1 t, .int r.2 u]
def KeyAt (s : Shared) (k : Value) (g : Addr → Prop) (e : Option Run × Int) : Prop := ∃ (b : Addr) (o : Obj) (t : Tok) (y : Value) (n : Nat), k = .ref b ∧ g b ∧ s.heap.get? b = some o ∧ o.cls = .type "tuple" ∧ o.data = .seq #[.int (-e.2) t, y] n ∧ StAt s y g e.1
theorem KeyAt.keep {s s' : Shared} {k : Value} {g : Addr → Prop} {e : Option Run × Int} (h : KeyAt s k g e) (kp : ∀ b o, g b → s.heap.get? b = some o → s'.heap.get? b = some o) : KeyAt s' k g e := by
  obtain ⟨b, o, t, y, n, e1, gb, h1, h2, h3, q, o2, vs, m, e2, gq, h4, h5, h6, h7⟩ := h
  exact ⟨b, o, t, y, n, e1, gb, kp _ _ gb h1, h2, h3, q, o2, vs, m, e2, gq, kp _ _ gq h4, h5, h6, h7⟩
theorem KeyAt.reads {s : Shared} {k : Value} {g : Addr → Prop} {e : Option Run × Int} (h : KeyAt s k g e) : ∃ as, Reads s.heap k (dRk e) as := by
  obtain ⟨b, o, t, y, n, rfl, gb, h1, h2, h3, q, o2, vs, m, rfl, gq, h4, h5, h6, h7⟩ := h
  have hs : ∃ as, Reads s.heap (.ref q) (dStK e.1) as := by
    cases he : e.1 with
    | none =>
      rw [he] at h7
      have h7 : vs = #[] := h7
      subst h7
      exact ⟨_, .tuple h4 h5 h6 .nil⟩
    | some r =>
      rw [he] at h7
      obtain ⟨t1, t2, h7⟩ := h7
      subst h7
      exact ⟨_, .tuple h4 h5 h6 (.cons (.str _ _) (.cons (.int _ _) .nil))⟩
  obtain ⟨as, hs⟩ := hs
  exact ⟨_, .tuple h1 h2 h3 (.cons (.int _ _) (.cons hs .nil))⟩
theorem ok_ex {P : Program} {w : World} {H : Hp} {h : Heap} {a : Addr} {o : HO} (x : ObjOk P w H h a o) : ∃ ob, h.get? a = some ob := by
  cases o with
  | lst xs => obtain ⟨_, _, _, _, e⟩ := x; exact ⟨_, e⟩
  | tup xs => obtain ⟨_, _, _, _, e, _⟩ := x; exact ⟨_, e⟩
  | dK kvs => obtain ⟨_, _, _, _, o, _, _, e, _⟩ := x; exact ⟨_, e⟩
  | dT kvs => obtain ⟨_, _, _, _, o, _, _, e, _⟩ := x; exact ⟨_, e⟩
  | set S n => obtain ⟨o, _, _, _, e, _⟩ := x; exact ⟨_, e⟩
  | ins C dx fs => obtain ⟨_, _, _, e, _⟩ := x; exact ⟨_, e⟩
  | own y => obtain ⟨_, e⟩ := x; exact ⟨_, e⟩
  | xd fs => obtain ⟨_, ⟨_, _, _, e, _⟩, _⟩ := x; exact ⟨_, e⟩
  | rng lo hi => obtain ⟨_, _, _, e⟩ := x; exact ⟨_, e⟩
  | frz ob u => obtain ⟨e, _⟩ := x; exact ⟨_, e⟩
  | tbl ps => exact ⟨_, (show h.get? a = some _ from x)⟩
  | met f y => exact ⟨_, (show h.get? a = some _ from x)⟩
  | ext φ => obtain ⟨_, ⟨_, e⟩, _⟩ := x; exact ⟨_, e⟩
theorem frs_ex {h base : Heap} : ∀ (l : List Env), h.FunFrames base l → ∀ b ∈ frs l, ∃ o, h.get? b = some o
  | [], _, b, hb => by cases hb
  | env :: r, hl, b, hb => by
    obtain ⟨hk, ⟨L, o, hf, hn, ho, hd⟩, hr⟩ := hl
    unfold frs at hb
    rw [List.filterMap_cons, hf] at hb
    rcases List.mem_cons.mp hb with z | z
    · exact ⟨o, by rw [z]; exact ho⟩
    · exact frs_ex r hr b z
section
variable {X : Cx}
theorem call_minR {k : Nat} {f : Addr} {fd : FuncData} {pins : List (Addr × Obj)} {s : Shared} {σ : L2.St} {H : Hp} {vs : List V} {us : List Value} {Q : VK} (bd : Binds X.K fd ["entry"] []) (F : FnOk X.prog X.w X.K X.mg X.base CX0 k f fd ["entry"] sp_rank_of) (hr : Room (k + 1) X.A) (hc : X.calm = true)
    (I : Inv X pins σ H s) (r : Vals vs us) (h : rMinR vs H Q) : wpAny (model X.prog X.w) X.A (call (.builtin "min") us [(Str.ofString "key", .ref f)]) (EP X pins σ Q) X.xe s := by
  obtain ⟨a, xs, es, rfl, ha, hn, hp, q⟩ := h
  rw [Vals.ref1 r]
  obtain ⟨its, rv, hl, lz⟩ := I.list (.of ha)
  have lits : its.length = xs.length := (Paired.length rv).symm
  have lxs : xs.length = es.length := Paired.len hp
  refine call_min_walkK (PySem.W.iter_listW (A := X.A.in1) (I.ok.hd hc) hl.isList fun s₂ e W st0 lt _ kp => ?_)
  obtain ⟨n0, en⟩ : ∃ n0, s.heap.objs.size = n0 := ⟨_, rfl⟩
  have I2 : Inv X pins σ H s₂ := by
    rw [e]
    exact I.kept (t' := s.toks) fun b o' z => Heap.get?_push_of_some _ z
  have sz2 : s₂.heap.objs.size = n0 + 1 := by
    rw [e, ← en]
    exact Heap.size_push _ _
  rw [en] at W st0 lt ⊢
  rw [sz2]
  have fpI : FpOk X pins H n0 := I.fpOk (by omega) (I.hok.fresh (by omega))
  have fpS : FpOk X pins H (n0 + 1) := I.fpOk (by omega) (I.hok.fresh (by omega))
  obtain ⟨G, eG⟩ : ∃ G : Addr → Prop, G = fun b => b ≠ n0 ∧ b ≠ n0 + 1 ∧ b ∉ frs X.stack ∧ ∀ j : Nat, xs[j]? ≠ some (.ref b) := ⟨_, rfl⟩
  have frsN : ∀ {s' : Shared}, Inv X pins σ H s' → ∀ b, (n0 ≤ b ∨ H b ≠ none) → b ∉ frs X.stack := fun {s'} J b hb z => by
    rcases hb with hb | hb
    · rcases List.mem_cons.mp (J.stkSub b z) with z | z
      · exact absurd (Nat.lt_of_lt_of_le I.lt (by rw [en, ← z]; exact hb)) (Nat.lt_irrefl _)
      · exact I.nofs (by omega) z
    · exact hb (J.stkFree b z)
  refine ⟨n0, [n0, a], [n0], _, its.toArray.size, _, _, fun s' => Inv X pins σ H s', fun i k s' => KeyAt s' k G ((es[i]?).getD (none, 0)), ltRk es, rfl, W, st0, by rw [sz2] at lt; exact lt, by rw [List.size_toArray, lits]; exact hn, ⟨?_, ?_, ?_, ?_⟩, I2, fun v s' hP J => ?_⟩
  · -- keep
    intro s1 s2 J mv
    refine J.call' (ch := [n0 + 1, n0]) mv.os ⟨fun b o ho _ _ hx => mv.heap b o hx ho, fun b o ho _ _ hx => ⟨o.slots, mv.heap b o hx ho⟩, fun b o _ hb _ => hb, fun b o ho hx => ⟨o, mv.heap b o hx ho⟩, fun _ _ z => z, fun _ _ _ z => z, fun b ps z => ⟨#[], by rw [z]; simp⟩⟩ ?_ ?_ ?_
    · intro c o hco
      refine (J.hok c o hco).stay (fun b u hb hu => mv.heap b u (fun hx => ?_) hu) (fun _ z => z) fun _ _ z => z
      have hbn : H b ≠ none := by
        rcases hb with z | z
        · rw [z, hco]; simp
        · rw [z]; simp
      rcases List.mem_cons.mp hx with z | z
      · exact hbn (by rw [z]; exact fpS.1)
      · exact hbn (by rw [List.mem_singleton.mp z]; exact fpI.1)
    · have hg : s2.gens = s1.gens := mv.gens
      rw [hg]
      exact J.bare
    · intro b hb
      rcases List.mem_cons.mp hb with z | z
      · rw [z]
        exact ⟨fpS.2.2.2.1, fpS.2.1, fpS.2.2.2.2.1, fpS.2.2.2.2.2⟩
      · rw [List.mem_singleton.mp z]
        exact ⟨fpI.2.2.2.1, fpI.2.1, fpI.2.2.2.2.1, fpI.2.2.2.2.2⟩
  · -- keepV
    intro i k s1 s2 hV mv
    refine hV.keep fun b o gb ho => mv.heap b o (fun hx => ?_) ho
    rw [eG] at gb
    rcases List.mem_cons.mp hx with z | z
    · exact gb.2.1 z
    · exact gb.1 (List.mem_singleton.mp z)
  · -- turn
    intro i v s1 o Q' E' hi hPi J hst hS cont
    have hi2 : i < xs.length := by rw [List.size_toArray, lits] at hi; exact hi
    obtain ⟨en2, een, ea, sv, exi, hea, hsv⟩ : ∃ en2, es[i]? = some en2 ∧ ∃ (ea : Addr) (sv : V), xs[i]? = some (.ref ea) ∧ H ea = some (.tup [sv, .int en2.2]) ∧ StV H sv en2.1 := by
      obtain ⟨x, ex⟩ : ∃ x, xs[i]? = some x := ⟨_, List.getElem?_eq_getElem hi2⟩
      obtain ⟨en2, e1, ea, sv, e2, e3, e4⟩ := Paired.at hp ex
      exact ⟨en2, e1, ea, sv, by rw [ex, e2], e3, e4⟩
    obtain ⟨u0, eu0, ru0⟩ := Vals.get rv exi
    have hvi : v = .ref ea := by
      have hPi : its.toArray[i]? = some v := hPi
      rw [List.getElem?_toArray, eu0] at hPi
      cases hPi
      exact ru0
    subst hvi
    obtain ⟨Hm, eHm⟩ : ∃ Hm : Hp, Hm = fun c => if c = ea then H ea else none := ⟨_, rfl⟩
    have hm1 : Hm ea = some (.tup [sv, .int en2.2]) := by rw [eHm]; show (if ea = ea then H ea else none) = _; rw [if_pos rfl]; exact hea
    have hm0 : ∀ c, c ≠ ea → Hm c = none := fun c z => by rw [eHm]; show (if c = ea then H ea else none) = none; rw [if_neg z]
    have hmN : ∀ c, H c = none → Hm c = none := fun c z => hm0 c fun z2 => by rw [z2, hea] at z; cases z
    have env : Env0 X.prog X.w X.K X.mg X.base X.A.in1 X.stack s1 Hm := by
      obtain ⟨e1, e2, e3, e4, e5, e6, e7, e8⟩ := J.env0.in1
      refine ⟨e1, e2, fun b o ho => ⟨(e3 b o ho).1, hmN b (e3 b o ho).2⟩, e4, e5, fun b hb => hmN b (e6 b hb), fun c oc hc => ?_, e8⟩
      by_cases z : c = ea
      · rw [z, hm1] at hc
        cases hc
        rw [z]
        exact e7 ea _ hea
      · rw [hm0 c z] at hc
        cases hc
    have st1 : sv = .non ∨ ∃ q, sv = .ref q := by
      cases hst : en2.1 with
      | none =>
        rw [hst] at hsv
        exact .inl hsv
      | some r =>
        rw [hst] at hsv
        obtain ⟨t, z, _⟩ := hsv
        exact .inr ⟨t, z⟩
    refine wpAny_call (codeAny_mono (F.run X.A.in1 X.stack s1 Hm ⟨[.ref ea], []⟩ [.ref ea] [.ref ea] (fun w H' => ∃ p y, w = .ref p ∧ Hm p = none ∧ H' p = some (.tup [.int (-en2.2), y]) ∧ ((sv = .non ∧ ∃ u, y = .ref u ∧ Hm u = none ∧ H' u = some (.tup [])) ∨ (sv ≠ .non ∧ y = sv))) E0 hr.in1 env (bd s1 [.ref ea] J.kIn rfl) (.cons rfl .nil) ⟨ea, sv, en2.2, rfl, hm1, st1, fun H' p y h1 h2 h3 => ⟨p, y, rfl, h1, h2, h3⟩⟩) fun res s2 hq => ?_)
    cases res with
    | error e => exact hq.elim
    | ok fl =>
    cases fl with
    | next => exact False.elim hq
    | brk => exact False.elim hq
    | cont => exact False.elim hq
    | ret u =>
    obtain ⟨wv, H', os, bare, un, hok, rw1, p, y, rfl, pN, hpT, hy⟩ := hq
    have keep : ∀ b ob, s1.heap.get? b = some ob → b ≠ ea → b ∉ frs X.stack → s2.heap.get? b = some ob := fun b ob ho z1 z2 => un.keep b ob ho (hm0 b z1) z2 (by simp)
    have newN : ∀ b oh, Hm b = none → H' b = some oh → s1.heap.get? b = none := fun b oh h1 h2 => by
      cases z : s1.heap.get? b with
      | none => rfl
      | some ob =>
        have := un.free b ob z h1 (by simp)
        rw [this] at h2
        cases h2
    have szS : n0 + 1 < s1.heap.objs.size := Heap.lt_size hS
    obtain ⟨oI, hoI, hIc, hId⟩ := hst.1
    obtain ⟨oL, hoL, hLc, nL, hLd⟩ := hst.2
    have ea0 : n0 ≠ ea := fun z => by rw [← z, fpI.1] at hea; cases hea
    have eaS : n0 + 1 ≠ ea := fun z => by rw [← z, fpS.1] at hea; cases hea
    have eaL : a ≠ ea := fun z => by rw [← z, ha] at hea; cases hea
    have newG : ∀ b, s1.heap.get? b = none → G b := fun b hb => by
      have hHb : H b = none := by
        cases z : H b with
        | none => rfl
        | some oh =>
          obtain ⟨ob, z2⟩ : ∃ ob, s1.heap.get? b = some ob := ok_ex (J.hok b oh z)
          rw [hb] at z2
          cases z2
      rw [eG]
      refine ⟨fun z => ?_, fun z => ?_, fun z => ?_, fun j z => ?_⟩
      · rw [z, hoI] at hb; cases hb
      · rw [z, hS] at hb; cases hb
      · obtain ⟨ob, z2⟩ := frs_ex _ J.stack b z
        rw [hb] at z2
        cases z2
      · obtain ⟨_, _, ea2, _, z2, z3, _⟩ := Paired.at hp z
        cases z2
        rw [hHb] at z3
        cases z3
    have J2 : Inv X pins σ H s2 := by
      refine J.call' (ch := []) os ⟨fun b ob ho hb hf hx => un.keep b ob ho (hmN b hb) hf hx, fun b ob ho hb hf hx => un.slot b ob ho (hmN b hb) hf hx, fun b o _ hb _ => hb, fun b ob ho hx => un.there b ob ho hx, fun _ _ z => z, fun _ _ _ z => z, fun b ps z => ⟨#[], by rw [z]; simp⟩⟩ ?_ bare (fun b hb => by cases hb)
      intro c oc hc
      by_cases z : c = ea
      · rw [z, hea] at hc
        cases hc
        rw [z]
        exact hok ea _ (un.tups _ _ hm1)
      · refine (J.hok c oc hc).stay (fun b ub hb hu => ?_) (fun _ z => z) fun _ _ z => z
        refine keep b ub hu (fun z2 => ?_) (frsN J b (.inr ?_))
        · rcases hb with z3 | z3
          · exact z (z3 ▸ z2)
          · rw [z2, hea] at z3; cases z3
        · rcases hb with z3 | z3
          · rw [z3, hc]; simp
          · rw [z3]; simp
    refine cont u s2 J2 ⟨⟨oI, keep _ _ hoI ea0 (frsN J _ (.inl (Nat.le_refl _))), hIc, hId⟩, oL, keep _ _ hoL eaL (frsN J _ (.inr (by rw [ha]; simp))), hLc, nL, hLd⟩ (keep _ _ hS eaS (frsN J _ (.inl (by omega)))) ?_ fun j k' hV => ?_
    · -- the new key
      show KeyAt s2 u G ((es[i]?).getD (none, 0))
      rw [een]
      show KeyAt s2 u G en2
      have ep : u = .ref p := rw1
      obtain ⟨_, kits, kv, ok, hok1, hokc, mk, hokd⟩ := hok p _ hpT
      obtain ⟨t1, y1, rfl, rt1, ry1⟩ := Vals.two kv
      obtain ⟨t, rfl⟩ : ∃ t, t1 = Value.int (-en2.2) t := rt1
      refine ⟨p, ok, t, y1, mk, ep, newG p (newN p _ pN hpT), hok1, hokc, hokd, ?_⟩
      rcases hy with ⟨e1, uu, rfl, uN, huT⟩ | ⟨ne, rfl⟩
      · obtain ⟨_, kits2, kv2, ok2, hok3, hokc3, mk3, hokd3⟩ := hok uu _ huT
        have z0 := Vals.zero kv2
        subst z0
        refine ⟨uu, ok2, _, mk3, ry1, newG uu (newN uu _ uN huT), hok3, hokc3, hokd3, ?_⟩
        have en1 : en2.1 = none := by
          cases hst2 : en2.1 with
          | none => rfl
          | some r =>
            rw [hst2] at hsv
            obtain ⟨t, z, _⟩ := hsv
            rw [e1] at z
            cases z
        rw [en1]
      · obtain ⟨r, er⟩ : ∃ r, en2.1 = some r := by
          cases hst2 : en2.1 with
          | none =>
            rw [hst2] at hsv
            exact absurd hsv ne
          | some r => exact ⟨r, rfl⟩
        rw [er] at hsv
        obtain ⟨qa, rfl, hqa⟩ := hsv
        obtain ⟨_, kits2, kv2, ok2, hok3, hokc3, mk3, hokd3⟩ := J2.hok qa _ hqa
        obtain ⟨w1, w2, rfl, rw3, rw4⟩ := Vals.two kv2
        obtain ⟨t3, rfl⟩ : ∃ t, w1 = Value.str r.1 t := rw3
        obtain ⟨t4, rfl⟩ : ∃ t, w2 = Value.int r.2 t := rw4
        refine ⟨qa, ok2, _, mk3, ry1, ?_, hok3, hokc3, hokd3, ?_⟩
        · rw [eG]
          refine ⟨fun z => ?_, fun z => ?_, frsN J2 _ (.inr ?_), fun j z => ?_⟩
          · rw [z, fpI.1] at hqa; cases hqa
          · rw [z, fpS.1] at hqa; cases hqa
          · rw [hqa]; simp
          · obtain ⟨e5, _, ea2, sv2, z2, z3, z4⟩ := Paired.at hp z
            cases z2
            rw [hqa] at z3
            cases e5' : e5.1 with
            | none =>
              rw [e5'] at z4
              rw [z4] at z3
              cases z3
            | some r5 =>
              rw [e5'] at z4
              obtain ⟨t5, z5, _⟩ := z4
              rw [z5] at z3
              cases z3
        · rw [er]
          exact ⟨t3, t4, rfl⟩
    · refine KeyAt.keep (s := s1) hV fun b ob gb ho => ?_
      rw [eG] at gb
      exact keep b ob ho (fun z => gb.2.2.2 i (by rw [exi, z])) gb.2.2.1
  · -- cmp
    intro i j ki kj s1 Q' E' J hVi hVj hQ
    obtain ⟨as, r1⟩ := KeyAt.reads hVi
    obtain ⟨bs, r2⟩ := KeyAt.reads hVj
    refine PySem.W.rcLt_alike _ _ _ s1 ki kj as bs r1 r2 (alike_rk _ _) (by intro z; cases z) ?_ X.prog X.w _ _ hQ
    have h1 := depth_rk ((es[i]?).getD (none, 0))
    have h2 := hr.in1.un
    omega
  · have hlen : its.toArray.size = xs.length := by rw [List.size_toArray, lits]
    rw [hlen] at hP
    have hlt : argBest (ltRk es) (xs.length - 1) < xs.length := by
      have : ∀ (bt : Nat → Nat → Bool) (m : Nat), argBest bt m ≤ m := by
        intro bt m
        induction m with
        | zero => exact Nat.le_refl _
        | succ m ih =>
          show (if bt (m + 1) (argBest bt m) then m + 1 else argBest bt m) ≤ m + 1
          split <;> omega
      have := this (ltRk es) (xs.length - 1)
      omega
    obtain ⟨x, ex⟩ : ∃ x, xs[argBest (ltRk es) (xs.length - 1)]? = some x := ⟨_, List.getElem?_eq_getElem hlt⟩
    obtain ⟨u0, eu0, ru0⟩ := Vals.get rv ex
    have hP : its.toArray[argBest (ltRk es) (xs.length - 1)]? = some v := hP
    rw [List.getElem?_toArray, eu0] at hP
    cases hP
    exact ⟨x, H, J, ru0, q _ x hlt ex rfl⟩
theorem pe_minR {kpos : Pos} {p pn pos : Pos} {e : Expr} {t : TA} {k : Nat} (G : Has X.prog X.w X.K X.mg X.base k "rank_of" ["entry"] sp_rank_of) (hr : Room (k + 1) X.A) (hc : X.calm = true) (hg : Gl X "min") (hm : X.mg "min" = none) (hv : bootBuiltins "min" = some (.builtin "min")) (hgk : Gl X "rank_of") (ha : PA X [e] t)
    (hs : backTo pos (starEach [e] X.env) = (false, eval e X.env) :: backTo pos (starEach [] X.env) := by rfl) (hpl : (backTo pos (starEach [e] X.env)).any (·.1) = false := by rfl)
    (hall : (backToKw pos (keywordEach [⟨some "key", .Name "rank_of" pn, kpos⟩] X.env)).all (·.1.isSome) = true := by rfl) (hnone : (backToKw pos (keywordEach [⟨some "key", .Name "rank_of" pn, kpos⟩] X.env)).any (·.1.isNone) = false := by rfl)
    (hks : (backToKw pos (keywordEach [⟨some "key", .Name "rank_of" pn, kpos⟩] X.env)).filterMap (·.1) = [Str.ofString "key"] := by rfl) :
    PE X (.Call (.Name "min" p) [e] [⟨some "key", .Name "rank_of" pn, kpos⟩] pos) (tCB rMinR t) := by
  obtain ⟨f, fd, g, kp, bd, F⟩ := G
  have hk : PK X [⟨some "key", .Name "rank_of" pn, kpos⟩] (tCons (tC (.ref f)) tNil) := pk_cons (pe_glob hgk g rfl) pk_nil
  refine ⟨fun pins s σ H Q I h => ?_⟩
  refine wpAny_Call_Name_kw (ld_blt I hg hm hv ?_ (by decide) (by decide))
  refine PyProof.Rows.callWith_kw (thn (ha.run pos pins s σ H _ I h) fun us s1 ⟨vs, H1, I1, r1, q1⟩ => thn (hk.run pos pins s1 σ H1 (fun zs H2 => zs = [.ref f] ∧ H2 = H1) I1 ⟨rfl, rfl⟩) fun ws s2 ⟨zs, H2, I2, r2, ez, eh⟩ => ?_) hs hpl hall hnone
  subst ez eh
  rw [hks, Vals.ref1 r2]
  exact call_minR bd F hr hc I2 r1 q1
end
end UP

set_option Elab.async false
set_option linter.all false
set_option maxRecDepth 100000
set_option maxHeartbeats 4000000
set_option pp.maxSteps 600
namespace UP
open PySem PySem.Spec PyProof.Rows L2
/-! ### the orders, built from their ends and from their beginnings -/
def preL : Nat → List Run → List (List Str)
  | 0, _ => [[]]
  | T + 1, cs => cs.flatMap fun r => (preL T (lessR cs r.1)).map (· ++ [r.1])
theorem pre_ends : ∀ (T : Nat) (cs : List Run), (preL T cs).map (fun l => stI l none) = endsL T cs
  | 0, _ => rfl
  | T + 1, cs => by
    show (cs.flatMap fun r => (preL T (lessR cs r.1)).map (· ++ [r.1])).map (fun l => stI l none) = cs.flatMap fun r => (endsL T (lessR cs r.1)).map fun s => stepR s r.1 1
    rw [List.map_flatMap]
    refine flat_cong fun r _ => ?_
    rw [← pre_ends T (lessR cs r.1), List.map_map, List.map_map]
    exact List.map_congr_left fun l _ => stI_snocP l r.1 none
theorem ok_empty {cs : List Run} (ok : Okc cs) (hT : (lenR cs).toNat = 0) : cs = [] := by
  cases cs with
  | nil => rfl
  | cons r u =>
    have := lenR_mem ok (List.mem_cons_self ..)
    omega
theorem wd_nil : Wd [] [] := ⟨(fun x hx => by cases hx), (fun r hr => by cases hr)⟩
theorem wd_perm {cs : List Run} {l m : List Str} (p : l.Perm m) (h : Wd cs l) : Wd cs m := ⟨fun x hx => h.kin x (p.mem_iff.mpr hx), fun r hr => by rw [← p.count_eq]; exact h.cnt r hr⟩
theorem wd_cons {cs : List Run} (ok : Okc cs) {r : Run} (hr : r ∈ cs) {t : List Str} : Wd cs (r.1 :: t) ↔ Wd (lessR cs r.1) t :=
  Iff.trans ⟨wd_perm (List.perm_append_singleton r.1 t).symm, wd_perm (List.perm_append_singleton r.1 t)⟩ (wd_snoc ok hr)
theorem pre_mem : ∀ (T : Nat) {cs : List Run}, Okc cs → (lenR cs).toNat = T → ∀ l, l ∈ preL T cs ↔ Wd cs l
  | 0, cs, ok, hT, l => by
    obtain rfl := ok_empty ok hT
    constructor
    · intro h
      rw [List.mem_singleton.mp h]
      exact wd_nil
    · intro wd
      rw [List.eq_nil_of_length_eq_zero (wd_len 0 ok hT wd)]
      exact List.mem_singleton.mpr rfl
  | T + 1, cs, ok, hT, l => by
    have sub : ∀ {r : Run}, r ∈ cs → (lenR (lessR cs r.1)).toNat = T := fun hr => by
      have := less_len ok hr
      omega
    constructor
    · intro h
      obtain ⟨r, hr, h⟩ := List.mem_flatMap.mp h
      obtain ⟨t, ht, rfl⟩ := List.mem_map.mp h
      exact (wd_snoc ok hr).mpr ((pre_mem T (less_ok ok r.1) (sub hr) t).mp ht)
    · intro wd
      have hl := wd_len (T + 1) ok hT wd
      rcases List.eq_nil_or_concat l with z | ⟨t, k, z⟩
      · rw [z] at hl
        cases hl
      · rw [List.concat_eq_append] at z
        subst z
        obtain ⟨r, hr, ek⟩ := List.mem_map.mp (wd.kin k (List.mem_append_right _ (List.mem_singleton.mpr rfl)))
        have ek : r.1 = k := ek
        subst ek
        exact List.mem_flatMap.mpr ⟨r, hr, List.mem_map.mpr ⟨t, (pre_mem T (less_ok ok r.1) (sub hr) t).mpr ((wd_snoc ok hr).mp wd), rfl⟩⟩
theorem suf_mem : ∀ (T : Nat) {cs : List Run}, Okc cs → (lenR cs).toNat = T → ∀ l, l ∈ sufL T cs ↔ Wd cs l
  | 0, cs, ok, hT, l => by
    obtain rfl := ok_empty ok hT
    constructor
    · intro h
      rw [List.mem_singleton.mp h]
      exact wd_nil
    · intro wd
      rw [List.eq_nil_of_length_eq_zero (wd_len 0 ok hT wd)]
      exact List.mem_singleton.mpr rfl
  | T + 1, cs, ok, hT, l => by
    have sub : ∀ {r : Run}, r ∈ cs → (lenR (lessR cs r.1)).toNat = T := fun hr => by
      have := less_len ok hr
      omega
    constructor
    · intro h
      obtain ⟨r, hr, h⟩ := List.mem_flatMap.mp h
      obtain ⟨t, ht, rfl⟩ := List.mem_map.mp h
      exact (wd_cons ok hr).mpr ((suf_mem T (less_ok ok r.1) (sub hr) t).mp ht)
    · intro wd
      have hl := wd_len (T + 1) ok hT wd
      cases l with
      | nil => cases hl
      | cons k t =>
        obtain ⟨r, hr, ek⟩ := List.mem_map.mp (wd.kin k (List.mem_cons_self ..))
        have ek : r.1 = k := ek
        subst ek
        exact List.mem_flatMap.mpr ⟨r, hr, List.mem_map.mpr ⟨t, (suf_mem T (less_ok ok r.1) (sub hr) t).mpr ((wd_cons ok hr).mp wd), rfl⟩⟩
theorem nodup_flat {α β : Type} {f : α → List β} : ∀ {l : List α}, l.Nodup → (∀ x ∈ l, (f x).Nodup) → (∀ x ∈ l, ∀ y ∈ l, x ≠ y → ∀ b, b ∈ f x → b ∉ f y) → (l.flatMap f).Nodup
  | [], _, _, _ => .nil
  | x :: t, nd, h1, h2 => by
    obtain ⟨n1, n2⟩ := List.nodup_cons.mp nd
    rw [List.flatMap_cons]
    refine List.nodup_append.mpr ⟨h1 x (List.mem_cons_self ..), nodup_flat n2 (fun y hy => h1 y (List.mem_cons_of_mem _ hy)) (fun y hy z hz => h2 y (List.mem_cons_of_mem _ hy) z (List.mem_cons_of_mem _ hz)), fun a ha b hb e => ?_⟩
    obtain ⟨y, hy, hb⟩ := List.mem_flatMap.mp hb
    rw [← e] at hb
    exact h2 x (List.mem_cons_self ..) y (List.mem_cons_of_mem _ hy) (fun z => n1 (by rw [z]; exact hy)) a ha hb
theorem asc_nodup {cs : List Run} (ok : Okc cs) : cs.Nodup := by
  refine List.nodup_iff_pairwise_ne.mpr ((asc_pairX.mp ok.asc).imp fun {a b} h e => ?_)
  rw [e] at h
  exact List.lt_irrefl _ h
theorem asc_same {cs : List Run} (ok : Okc cs) {x y : Run} (hx : x ∈ cs) (hy : y ∈ cs) (h : x.1 = y.1) : x = y := by
  obtain ⟨i, hi⟩ := List.getElem?_of_mem hx
  obtain ⟨j, hj⟩ := List.getElem?_of_mem hy
  by_cases c : i = j
  · rw [c, hj] at hi
    exact (Option.some.inj hi).symm
  · exact absurd h (asc_ne ok.asc c hi hj)
theorem nodup_mapX {α β : Type} {f : α → β} (inj : ∀ x y, f x = f y → x = y) {l : List α} (h : l.Nodup) : (l.map f).Nodup := by
  refine List.nodup_iff_pairwise_ne.mpr (List.pairwise_map.mpr ((List.nodup_iff_pairwise_ne.mp h).imp fun {a b} n e => n (inj a b e)))
theorem pre_nodup : ∀ (T : Nat) {cs : List Run}, Okc cs → (preL T cs).Nodup
  | 0, _, _ => List.nodup_cons.mpr ⟨List.not_mem_nil, .nil⟩
  | T + 1, cs, ok => by
    refine nodup_flat (asc_nodup ok) (fun r _ => nodup_mapX (fun a b e => List.append_cancel_right e) (pre_nodup T (less_ok ok r.1))) fun x hx y hy n b h1 h2 => ?_
    obtain ⟨s, _, rfl⟩ := List.mem_map.mp h1
    obtain ⟨t, _, e⟩ := List.mem_map.mp h2
    have e2 := congrArg List.getLast? e
    rw [List.getLast?_append, List.getLast?_append] at e2
    exact n (asc_same ok hx hy (Option.some.inj e2).symm)
theorem suf_nodup : ∀ (T : Nat) {cs : List Run}, Okc cs → (sufL T cs).Nodup
  | 0, _, _ => List.nodup_cons.mpr ⟨List.not_mem_nil, .nil⟩
  | T + 1, cs, ok => by
    refine nodup_flat (asc_nodup ok) (fun r _ => nodup_mapX (fun a b e => (List.cons.inj e).2) (suf_nodup T (less_ok ok r.1))) fun x hx y hy n b h1 h2 => ?_
    obtain ⟨s, _, rfl⟩ := List.mem_map.mp h1
    obtain ⟨t, _, e⟩ := List.mem_map.mp h2
    exact n (asc_same ok hx hy (List.cons.inj e).1.symm)
theorem pre_suf {cs : List Run} (ok : Okc cs) : (preL (lenR cs).toNat cs).Perm (sufR cs) := by
  refine (List.perm_ext_iff_of_nodup (pre_nodup _ ok) (suf_nodup _ ok)).mpr fun l => ?_
  rw [pre_mem _ ok rfl]
  exact (suf_mem _ ok rfl l).symm
theorem ends_suf {cs : List Run} (ok : Okc cs) : ((sufR cs).map fun l => stI l none).Perm (endsR cs) := by
  unfold endsR
  rw [← pre_ends]
  exact ((pre_suf ok).map _).symm
theorem suf_num {cs : List Run} (ok : Okc cs) (g : Option Run) : ((sufR cs).map fun l => stI l none).count g = numE cs g := (ends_suf ok).count_eq g
theorem suf_len {cs : List Run} (ok : Okc cs) : (sufR cs).length = (endsR cs).length := by
  have := (ends_suf ok).length_eq
  rw [List.length_map] at this
  exact this
/-! ### which state comes first -/
def ltP : Option Run → Option Run → Prop
  | none, some _ => True
  | some a, some b => a.1.cps.toList < b.1.cps.toList ∨ (a.1 = b.1 ∧ a.2 < b.2)
  | _, none => False
theorem ltP_irr : ∀ a : Option Run, ¬ ltP a a
  | none, h => h
  | some a, h => by
    rcases h with h | h
    · exact List.lt_irrefl _ h
    · omega
theorem ltP_trans : ∀ {a b c : Option Run}, ltP a b → ltP b c → ltP a c
  | none, some b, some c, _, _ => trivial
  | some a, some b, some c, h1, h2 => by
    rcases h1 with h1 | ⟨e1, h1⟩
    · rcases h2 with h2 | ⟨e2, h2⟩
      · exact .inl (List.lt_trans h1 h2)
      · exact .inl (by rw [← e2]; exact h1)
    · rcases h2 with h2 | ⟨e2, h2⟩
      · exact .inl (by rw [e1]; exact h2)
      · exact .inr ⟨e1.trans e2, by omega⟩
  | none, none, _, h1, _ => h1.elim
  | some _, none, _, h1, _ => h1.elim
  | none, some _, none, _, h2 => h2.elim
  | some _, some _, none, _, h2 => h2.elim
theorem ltP_asym {a b : Option Run} (h : ltP a b) : ¬ ltP b a := fun z => ltP_irr a (ltP_trans h z)
theorem lex_end (x : PyData) (xs : List PyData) : PyProof.Rows.lexLt itemOrd (PySem.W.keyToksAll []) (PySem.W.keyToksAll (x :: xs)) = true := by
  rw [PySem.W.toks_all_cons, PySem.W.keyToksAll]
  rw [lex_diff (O := itemOrd) (by intro z; cases z)]
  decide
theorem lex_end2 (x : PyData) (xs : List PyData) : PyProof.Rows.lexLt itemOrd (PySem.W.keyToksAll (x :: xs)) (PySem.W.keyToksAll []) = false := by
  rw [PySem.W.toks_all_cons, PySem.W.keyToksAll]
  rw [lex_diff (O := itemOrd) (by intro z; cases z)]
  decide
theorem lex_nilX : PyProof.Rows.lexLt itemOrd (PySem.W.keyToksAll []) (PySem.W.keyToksAll []) = false := by
  rw [PySem.W.keyToksAll]
  decide
theorem eqv_i (a b : Int) : PyData.eqv (.int a) (.int b) = decide (a = b) := by
  simp [PyData.eqv, BEq.beq]
theorem eqv_s (a b : Str) : PyData.eqv (.str a) (.str b) = decide (a = b) := by
  simp [PyData.eqv, BEq.beq]
theorem dlt_st : ∀ a b : Option Run, PySem.W.dataLt (dStK a) (dStK b) = true ↔ ltP a b
  | none, none => by
    show PySem.W.dataLt (.tuple []) (.tuple []) = true ↔ False
    rw [PySem.W.dataLt_tuple, lex_nilX]
    simp
  | none, some b => by
    show PySem.W.dataLt (.tuple []) (.tuple [.str b.1, .int b.2]) = true ↔ True
    rw [PySem.W.dataLt_tuple, lex_end]
    simp
  | some a, none => by
    show PySem.W.dataLt (.tuple [.str a.1, .int a.2]) (.tuple []) = true ↔ False
    rw [PySem.W.dataLt_tuple, lex_end2]
    simp
  | some a, some b => by
    show PySem.W.dataLt (.tuple [.str a.1, .int a.2]) (.tuple [.str b.1, .int b.2]) = true ↔ (a.1.cps.toList < b.1.cps.toList ∨ (a.1 = b.1 ∧ a.2 < b.2))
    rw [PySem.W.dataLt_tuple]
    by_cases c : a.1 = b.1
    · rw [PySem.W.dataLt_all_yes rfl (by rw [eqv_s]; exact decide_eq_true c)]
      by_cases d : a.2 = b.2
      · rw [PySem.W.dataLt_all_yes rfl (by rw [eqv_i]; exact decide_eq_true d), lex_nilX, c, d]
        constructor
        · intro z; cases z
        · rintro (z | z)
          · exact absurd z (List.lt_irrefl _)
          · omega
      · rw [PySem.W.dataLt_all_no rfl (by rw [eqv_i]; exact decide_eq_false d), PySem.W.dataLt_int, decide_eq_true_iff]
        constructor
        · exact fun z => .inr ⟨c, z⟩
        · rintro (z | z)
          · rw [c] at z
            exact absurd z (List.lt_irrefl _)
          · exact z.2
    · rw [PySem.W.dataLt_all_no rfl (by rw [eqv_s]; exact decide_eq_false c), PySem.W.dataLt_str, decide_eq_true_iff]
      constructor
      · exact .inl
      · rintro (z | z)
        · exact z
        · exact absurd z.1 c
theorem eqv_st (a b : Option Run) : PyData.eqv (dStK a) (dStK b) = decide (a = b) := by
  cases a with
  | none =>
    cases b with
    | none => rfl
    | some b => simp [dStK, PyData.eqv, PyData.eqvAll]
  | some a =>
    cases b with
    | none => simp [dStK, PyData.eqv, PyData.eqvAll]
    | some b =>
      show PyData.eqv (.tuple [.str a.1, .int a.2]) (.tuple [.str b.1, .int b.2]) = _
      rw [PyData.eqv, PyData.eqvAll, PyData.eqvAll, PyData.eqvAll, eqv_s, eqv_i]
      by_cases c : a.1 = b.1
      · by_cases d : a.2 = b.2
        · rw [decide_eq_true c, decide_eq_true d, decide_eq_true (show some a = some b by rw [show a = b from Prod.ext c d])]
          rfl
        · rw [decide_eq_false d, decide_eq_false (fun z : some a = some b => d (by rw [Option.some.inj z]))]
          simp
      · rw [decide_eq_false c, decide_eq_false (fun z : some a = some b => c (by rw [Option.some.inj z]))]
        simp
theorem alike_st (a b : Option Run) : PySem.W.alike (dStK a) (dStK b) = true := by
  cases a <;> cases b <;> rfl
theorem dlt_rk (a b : Option Run × Int) : PySem.W.dataLt (dRk a) (dRk b) = true ↔ b.2 < a.2 ∨ (a.2 = b.2 ∧ ltP a.1 b.1) := by
  show PySem.W.dataLt (.tuple [.int (-a.2), dStK a.1]) (.tuple [.int (-b.2), dStK b.1]) = true ↔ _
  rw [PySem.W.dataLt_tuple]
  by_cases c : a.2 = b.2
  · rw [PySem.W.dataLt_all_yes rfl (by rw [eqv_i]; exact decide_eq_true (by rw [c]))]
    by_cases d : a.1 = b.1
    · rw [PySem.W.dataLt_all_yes (alike_st _ _) (by rw [eqv_st]; exact decide_eq_true d), lex_nilX, d]
      constructor
      · intro z; cases z
      · rintro (z | z)
        · omega
        · exact absurd z.2 (ltP_irr _)
    · rw [PySem.W.dataLt_all_no (alike_st _ _) (by rw [eqv_st]; exact decide_eq_false d), dlt_st]
      constructor
      · exact fun z => .inr ⟨c, z⟩
      · rintro (z | z)
        · omega
        · exact z.2
  · rw [PySem.W.dataLt_all_no rfl (by rw [eqv_i]; exact decide_eq_false (by omega)), PySem.W.dataLt_int, decide_eq_true_iff]
    constructor
    · exact fun z => .inl (by omega)
    · rintro (z | z)
      · omega
      · exact absurd z.1 c
/-- what argBest gives: nothing comes before it -/
theorem best_min {bt : Nat → Nat → Bool} (irr : ∀ i, bt i i = false) (tr : ∀ i j k, bt i j = true → bt j k = true → bt i k = true) : ∀ m, argBest bt m ≤ m ∧ ∀ j, j ≤ m → bt j (argBest bt m) = false
  | 0 => ⟨Nat.le_refl _, fun j hj => by
    obtain rfl : j = 0 := by omega
    exact irr _⟩
  | m + 1 => by
    obtain ⟨h1, h2⟩ := best_min irr tr m
    show (if bt (m + 1) (argBest bt m) then m + 1 else argBest bt m) ≤ m + 1 ∧ ∀ j, j ≤ m + 1 → bt j (if bt (m + 1) (argBest bt m) then m + 1 else argBest bt m) = false
    cases c : bt (m + 1) (argBest bt m) with
    | true =>
      rw [if_pos rfl]
      refine ⟨Nat.le_refl _, fun j hj => ?_⟩
      by_cases e : j = m + 1
      · rw [e]; exact irr _
      · cases d : bt j (m + 1) with
        | false => rfl
        | true =>
          have := tr _ _ _ d c
          rw [h2 j (by omega)] at this
          cases this
    | false =>
      rw [if_neg (by simp)]
      refine ⟨by omega, fun j hj => ?_⟩
      by_cases e : j = m + 1
      · rw [e]; exact c
      · exact h2 j (by omega)
theorem best_rk (es : List (Option Run × Int)) (m : Nat) : argBest (ltRk es) m ≤ m ∧ ∀ j, j ≤ m → ltRk es j (argBest (ltRk es) m) = false := by
  refine best_min (fun i => ?_) (fun i j k h1 h2 => ?_) m
  · cases c : ltRk es i i with
    | false => rfl
    | true =>
      rcases (dlt_rk _ _).mp c with z | z
      · omega
      · exact absurd z.2 (ltP_irr _)
  · refine (dlt_rk _ _).mpr ?_
    rcases (dlt_rk _ _).mp h1 with a | a
    · rcases (dlt_rk _ _).mp h2 with b | b
      · exact .inl (by omega)
      · exact .inl (by omega)
    · rcases (dlt_rk _ _).mp h2 with b | b
      · exact .inl (by omega)
      · exact .inr ⟨by omega, ltP_trans a.2 b.2⟩
/-- the first of the most frequent states -/
structure BestE (cs : List Run) (st : Option Run) (n : Nat) : Prop where
  num : numE cs st = n
  pos : 0 < n
  top : ∀ s, numE cs s ≤ n
  first : ∀ s, numE cs s = n → ¬ ltP s st
end UP

set_option Elab.async false
set_option linter.all false
set_option maxRecDepth 100000
set_option maxHeartbeats 4000000
set_option pp.maxSteps 700
namespace UP
open PySem PySem.Spec PyProof.Rows L2
/-! ### all orders -/
def fac : Nat → Nat
  | 0 => 1
  | n + 1 => (n + 1) * fac n
def ch : Nat → Nat → Nat
  | _, 0 => 1
  | 0, _ + 1 => 0
  | n + 1, k + 1 => ch n k + ch n (k + 1)
theorem ch_step : ∀ n k : Nat, (n + 1) * ch n k = ch (n + 1) (k + 1) * (k + 1)
  | 0, 0 => rfl
  | 0, k + 1 => by
    show (0 + 1) * 0 = (ch 0 (k + 1) + ch 0 (k + 1 + 1)) * (k + 1 + 1)
    show (0 + 1) * 0 = (0 + 0) * (k + 1 + 1)
    simp
  | n + 1, 0 => by
    have ih := ch_step n 0
    show (n + 1 + 1) * 1 = (1 + ch (n + 1) (0 + 1)) * (0 + 1)
    have e : ch n 0 = 1 := by cases n <;> rfl
    rw [e] at ih
    omega
  | n + 1, k + 1 => by
    have h1 := ch_step n k
    have h2 := ch_step n (k + 1)
    show (n + 1 + 1) * (ch n k + ch n (k + 1)) = (ch (n + 1) (k + 1) + ch (n + 1) (k + 1 + 1)) * (k + 1 + 1)
    have e1 : ch (n + 1) (k + 1) = ch n k + ch n (k + 1) := rfl
    rw [Nat.add_mul (ch (n + 1) (k + 1)), ← h2, show k + 1 + 1 = (k + 1) + 1 from rfl, Nat.mul_add (ch (n + 1) (k + 1)) (k + 1) 1, ← h1, e1, Nat.mul_one]
    have e2 : (n + 1 + 1) * (ch n k + ch n (k + 1)) = (n + 1) * ch n k + (n + 1) * ch n (k + 1) + (ch n k + ch n (k + 1)) := by
      rw [Nat.add_mul (n + 1) 1, Nat.mul_add, Nat.one_mul]
    rw [e2]
    omega
theorem ch_zero (n : Nat) : ch n 0 = 1 := by cases n <;> rfl
theorem fac_pos : ∀ n, 0 < fac n
  | 0 => Nat.one_pos
  | n + 1 => Nat.mul_pos (Nat.succ_pos n) (fac_pos n)
theorem ch_fac : ∀ l c : Nat, ch (l + c) c * fac c * fac l = fac (l + c)
  | l, 0 => by rw [Nat.add_zero, ch_zero, fac]; simp
  | l, c + 1 => by
    have ih := ch_fac l c
    have st := ch_step (l + c) c
    show ch (l + c + 1) (c + 1) * ((c + 1) * fac c) * fac l = (l + c + 1) * fac (l + c)
    rw [← ih, ← Nat.mul_assoc, ← st]
    simp only [Nat.mul_assoc]
/-- the number of all orders, kind by kind -/
def mulN (l : Nat) : List Run → Nat
  | [] => 1
  | r :: t => ch (l + r.2.toNat) r.2.toNat * mulN (l + r.2.toNat) t
def lenN (cs : List Run) : Nat := (cs.map fun r => r.2.toNat).sum
theorem mulN_snoc (r : Run) : ∀ (l : Nat) (t : List Run), mulN l (t ++ [r]) = mulN l t * ch (l + lenN t + r.2.toNat) r.2.toNat
  | l, [] => by
    show ch (l + r.2.toNat) r.2.toNat * 1 = 1 * ch (l + 0 + r.2.toNat) r.2.toNat
    rw [Nat.mul_one, Nat.one_mul, Nat.add_zero]
  | l, x :: t => by
    show ch (l + x.2.toNat) x.2.toNat * mulN (l + x.2.toNat) (t ++ [r]) = ch (l + x.2.toNat) x.2.toNat * mulN (l + x.2.toNat) t * _
    rw [mulN_snoc r, Nat.mul_assoc]
    have : lenN (x :: t) = x.2.toNat + lenN t := List.sum_cons
    rw [this, ← Nat.add_assoc]
theorem lenN_snoc (r : Run) (t : List Run) : lenN (t ++ [r]) = lenN t + r.2.toNat := by
  unfold lenN
  rw [List.map_append, List.sum_append]
  simp
theorem lenN_le : ∀ cs : List Run, lenN cs + 1 ≤ prodM cs
  | [] => Nat.le_refl _
  | r :: t => by
    have ih := lenN_le t
    have e : lenN (r :: t) = r.2.toNat + lenN t := List.sum_cons
    have h : r.2.toNat * 1 ≤ r.2.toNat * prodM t := Nat.mul_le_mul_left _ (prodM_pos t)
    show _ ≤ (r.2.toNat + 1) * prodM t
    rw [e, Nat.add_mul, Nat.one_mul]
    omega
theorem lenN_take (cs : List Run) (i : Nat) : lenN (cs.take i) ≤ lenN cs := by
  have : lenN cs = lenN (cs.take i) + lenN (cs.drop i) := by
    unfold lenN
    rw [← List.sum_append, ← List.map_append, List.take_append_drop]
  omega
theorem atI_neg1 {xs : List V} {v : V} {k : Nat} (l : xs.length = k + 1) (e : xs[k]? = some v) : atI xs (-1) = some v := by
  rcases List.eq_nil_or_concat xs with z | ⟨ys, y, z⟩
  · rw [z] at l
    cases l
  · rw [List.concat_eq_append] at z
    subst z
    rw [List.length_append] at l
    have l : ys.length = k := by simpa using l
    rw [List.getElem?_append_right (by omega), l, Nat.sub_self] at e
    cases e
    exact atI_last _ _
section
variable {P : Program} {w : World} {K : PySem.W.Frag} {mg : Str → Option Value} {base : Heap}
/-! orders_leading_to: slots 0:counts 1:state -/
abbrev s_orders_leading_to : Stmt := topS 49
theorem sc_orders_leading_to : FnScope ["counts", "state"] ["counts", "state"] (defScope s_orders_leading_to) := ⟨rfl, rfl, rfl, by decide +kernel, rfl, by decide +kernel, by decide +kernel⟩
def sp_orders_leading_to : Sp := fun vs H Q _ => ∃ (v u : V) (cs : List Run) (st : Option Run), vs = [v, u] ∧ RunsG H v cs ∧ CtOk cs ∧ prodM cs ≤ 3000 ∧ StG H u st ∧ StOk st ∧ ∀ H', Same H H' → Q (natV (numE cs st)) H'
theorem ok_orders_leading_to (D : Df K mg "orders_leading_to" s_orders_leading_to) (T : Tx mg) (G_checked_counts : Has P w K mg base 5 "checked_counts" ["counts"] sp_checked_counts) (G_checked_state : Has P w K mg base 3 "checked_state" ["state"] sp_checked_state) (G_check_product : Has P w K mg base 2 "check_product" ["counts"] sp_check_product)
    (G_ways_to : Has P w K mg base 3 "ways_to" ["counts"] (sp_ways_to w)) : Has P w K mg base 6 "orders_leading_to" ["counts", "state"] sp_orders_leading_to := by
  refine has_of D sc_orders_leading_to (fun _ _ _ _ _ _ us hl => match us, hl with | [_, _], _ => rfl) (fun vs H Q E h => ?_) (fun f cdv A₀ outer s₀ H vs Q E hr h => ?_)
  · obtain ⟨_, _, _, _, rfl, _⟩ := h
    rfl
  · obtain ⟨v, u, cs, st, rfl, hR, ok, p3, hu, so, q⟩ := h
    have okc : Okc cs := ⟨fun r hr => (ok.2.1 r hr).2.1, ok.2.2⟩
    have P0 := prodM_pos cs
    refine ⟨_, (pss_cons (ps_set (i := 0) sc_orders_leading_to.nd rfl (by first | exact Or.inl rfl | exact Or.inr rfl) (pe_callH G_checked_counts (hr.mono (by omega)) (by rfl) (pa_cons (pv 0) pa_nil)))
    (pss_cons (ps_set (i := 1) sc_orders_leading_to.nd rfl (by first | exact Or.inl rfl | exact Or.inr rfl) (pe_callH G_checked_state (hr.mono (by omega)) (by rfl) (pa_cons (pv 1) pa_nil)))
    (pss_cons (ps_expr (pe_callH G_check_product (hr.mono (by omega)) (by rfl) (pa_cons (pv 0) pa_nil)))
    (pss_one (ps_ret (pe_getX (w := w) rfl (room65 hr) (pe_ix ix_list (pe_callH G_ways_to (hr.mono (by omega)) (by rfl) (pa_cons (pv 0) pa_nil)) (pe_un un_neg pe_int) (fun _ _ => rfl)) (pv 1) pe_int ⟨by rfl, by rfl, by rfl, by rfl⟩)))))), ?_⟩
    refine ⟨_, rfl, v, cs, rfl, hR, ok, fun H1 a s1 na hR1 => ?_⟩
    refine ⟨_, rfl, u, st, rfl, hu.same s1, so, fun H2 v2 s2 hv2 => ?_⟩
    refine ⟨_, rfl, a, cs, rfl, hR1.same s2, ok, p3, fun H3 s3 => ?_⟩
    refine ⟨_, rfl, a, cs, rfl, hR1.same (s2.trans s3), ok, p3, fun H4 L ds s4 nL nds W => ?_⟩
    have b := main_box cs (prodM cs) (Nat.le_refl _)
    have ll : prodM cs - 1 < (mainF cs (prodM cs)).length := by rw [b.len]; omega
    obtain ⟨d, hd, rows, dx, pr⟩ := W.get ll
    have ln := W.len
    have hv4 := hv2.same (s3.trans s4)
    refine ⟨_, rfl, L, _, _, _, rfl, rfl, .of W.lst, atI_neg1 (k := prodM cs - 1) (by rw [List.length_map, ln, b.len]; omega) (by rw [List.getElem?_map, hd]; rfl), d, rfl, ⟨rows, dx⟩, _, rfl, rows, keyR st, dx, key_st hv4, ?_⟩
    show Q ((valX rows (keyR st)).getD (V.int 0)) H4
    rw [show V.int 0 = natV 0 from rfl, wd_val st pr]
    have lv := last_num okc st
    unfold valF at lv
    rw [List.getElem?_eq_getElem ll] at lv
    have lv : getF (mainF cs (prodM cs))[prodM cs - 1] st = numE cs st := lv
    rw [lv]
    exact q _ (s1.trans (s2.trans (s3.trans s4)))
/-! order_count: slots 0:counts 1:orders 2:length 3:kind 4:count 5:number -/
abbrev s_order_count : Stmt := topS 48
theorem sc_order_count : FnScope ["counts", "orders", "length", "kind", "count", "number"] ["counts"] (defScope s_order_count) := ⟨rfl, rfl, rfl, by decide +kernel, rfl, by decide +kernel, by decide +kernel⟩
def sp_order_count : Sp := fun vs H Q _ => ∃ (v : V) (cs : List Run), vs = [v] ∧ RunsG H v cs ∧ CtOk cs ∧ prodM cs ≤ 3000 ∧ ∀ H', Same H H' → Q (natV (mulN 0 cs)) H'
theorem ok_order_count (D : Df K mg "order_count" s_order_count) (T : Tx mg) (G_checked_counts : Has P w K mg base 5 "checked_counts" ["counts"] sp_checked_counts) (G_check_product : Has P w K mg base 2 "check_product" ["counts"] sp_check_product) : Has P w K mg base 6 "order_count" ["counts"] sp_order_count := by
  refine has_of D sc_order_count (fun _ _ _ _ _ _ us hl => match us, hl with | [_], _ => rfl) (fun vs H Q E h => ?_) (fun f cdv A₀ outer s₀ H vs Q E hr h => ?_)
  · obtain ⟨_, _, rfl, _⟩ := h
    rfl
  · obtain ⟨v, cs, rfl, hR, ok, p3, q⟩ := h
    have l12 := ok.1
    have pos : ∀ r ∈ cs, 1 ≤ r.2 := fun r hr => (ok.2.1 r hr).2.1
    have ln := lenN_le cs
    refine ⟨_, (pss_cons (ps_set (i := 0) sc_order_count.nd rfl (by first | exact Or.inl rfl | exact Or.inr rfl) (pe_callH G_checked_counts (hr.mono (by omega)) (by rfl) (pa_cons (pv 0) pa_nil)))
    (pss_cons (ps_expr (pe_callH G_check_product (hr.mono (by omega)) (by rfl) (pa_cons (pv 0) pa_nil)))
    (pss_cons (ps_set (i := 1) sc_order_count.nd rfl (by first | exact Or.inl rfl | exact Or.inr rfl) pe_int)
    (pss_cons (ps_set (i := 2) sc_order_count.nd rfl (by first | exact Or.inl rfl | exact Or.inr rfl) pe_int)
    (pss_cons (ps_for PassesOwn.never rfl (pi_list (pv 0)) (pg_tup rfl (pgs_cons (pg_name (i := 3) sc_order_count.nd rfl (by first | exact Or.inl rfl | exact Or.inr rfl)) (pgs_cons (pg_name (i := 4) sc_order_count.nd rfl (by first | exact Or.inl rfl | exact Or.inr rfl)) pgs_nil)))
      (pss_one (ps_for PassesOwn.never rfl (pi_range2 (by rfl) T.n_range (pa_cons pe_int (pa_cons (pe_op op_add (pv 4) pe_int) pa_nil))) (pg_name (i := 5) sc_order_count.nd rfl (by first | exact Or.inl rfl | exact Or.inr rfl))
      (pss_cons (ps_aug (i := 2) sc_order_count.nd rfl (by first | exact Or.inl rfl | exact Or.inr rfl) pe_int ip_add)
    (pss_one (ps_set (i := 1) sc_order_count.nd rfl (by first | exact Or.inl rfl | exact Or.inr rfl) (pe_op op_fdivW (pe_op op_mulW (pv 1) (pv 2)) (pv 5))))))))
    (pss_one (ps_ret (pv 1)))))))), ?_⟩
    refine ⟨_, rfl, v, cs, rfl, hR, ok, fun H1 a s1 na hR1 => ?_⟩
    refine ⟨_, rfl, a, cs, rfl, hR1, ok, p3, fun H2 s2 => ?_⟩
    obtain ⟨xs, hx, hp⟩ := hR1.same s2
    have lx : xs.length = cs.length := Paired.len hp
    refine ⟨_, rfl, a, rfl, ⟨xs, .of hx⟩, for_list (K := K) (a := a) (xs := xs) (fun i σ H' => ∃ y3 y4 y5, σ = [some (.ref a), some (natV (mulN 0 (cs.take i))), some (natV (lenN (cs.take i))), y3, y4, y5] ∧ H' = H2 ∧ mulN 0 (cs.take i) ≤ 4096 ^ lenN (cs.take i)) ⟨none, none, none, rfl, rfl, Nat.le_refl _⟩ (fun i σ H' _ hP => ?_) (fun i x σ H3 ex hP => ?_) (fun σ H3 hP => ?_)⟩
    · obtain ⟨_, _, _, _, rfl, _⟩ := hP
      exact .of hx
    · obtain ⟨y3, y4, y5, rfl, rfl, bd⟩ := hP
      obtain ⟨r, er, t, rfl, ht⟩ := Paired.at hp ex
      have r1 := pos r (List.mem_of_getElem? er)
      have tk := take_snoc er
      have lt : lenN (cs.take (i + 1)) ≤ lenN cs := lenN_take cs (i + 1)
      rw [tk, lenN_snoc] at lt
      have mu := mulN_snoc r 0 (cs.take i)
      rw [Nat.zero_add] at mu
      rw [tk, mu, lenN_snoc]
      generalize mulN 0 (cs.take i) = M at *
      generalize lenN (cs.take i) = l at *
      refine ⟨t, _, rfl, .of ht, rfl, _, _, rfl, _, _, rfl, rfl, ?_⟩
      refine ⟨_, rfl, _, _, rfl, rfl, 1, r.2 + 1, rfl, by omega, for_range (lo := 1) (n := (r.2 + 1 - 1).toNat) (fun j σ H' => ∃ y5, σ = [some (.ref a), some (natV (M * ch (l + j) j)), some (natV (l + j)), some (.str r.1), some (.int r.2), y5] ∧ H' = H3 ∧ M * ch (l + j) j ≤ 4096 ^ (l + j)) ⟨y5, ?_, rfl, ?_⟩ (fun j σ H' hj hP => ?_) (fun σ H' hP => ?_)⟩
      · rw [Nat.add_zero, ch_zero, Nat.mul_one]
        rfl
      · rw [Nat.add_zero, ch_zero, Nat.mul_one]
        exact bd
      · obtain ⟨y6, rfl, rfl, bd2⟩ := hP
        have hj : (j : Int) + 1 ≤ r.2 := by
          have : j < (r.2 + 1 - 1).toNat := hj
          omega
        have e0 : M * ch (l + j) j * (l + j + 1) = M * ch (l + (j + 1)) (j + 1) * (j + 1) := by
          have st := ch_step (l + j) j
          rw [Nat.mul_assoc, Nat.mul_assoc, Nat.mul_comm (ch (l + j) j), st]
          rfl
        have b3 : M * ch (l + (j + 1)) (j + 1) ≤ 4096 ^ (l + (j + 1)) := by
          have h1 : M * ch (l + (j + 1)) (j + 1) ≤ M * ch (l + (j + 1)) (j + 1) * (j + 1) := Nat.le_mul_of_pos_right _ (Nat.succ_pos j)
          rw [← e0] at h1
          have h2 : M * ch (l + j) j * (l + j + 1) ≤ 4096 ^ (l + j) * 4096 := Nat.mul_le_mul bd2 (by omega)
          rw [← Nat.pow_succ] at h2
          exact Nat.le_trans h1 h2
        have b4 : M * ch (l + j) j < 2 ^ 36001 := by
          have h1 : (4096 : Nat) ^ (l + j) ≤ 4096 ^ 3000 := Nat.pow_le_pow_right (by decide) (by omega)
          have h2 : (4096 : Nat) ^ 3000 = 2 ^ (12 * 3000) := by rw [Nat.pow_mul]
          have h3 : (2 : Nat) ^ (12 * 3000) < 2 ^ 36001 := Nat.pow_lt_pow_right (by decide) (by decide)
          rw [h2] at h1
          exact Nat.lt_of_le_of_lt (Nat.le_trans bd2 h1) h3
        refine ⟨_, rfl, _, _, rfl, rfl, _, rfl, _, rfl, _, _, rfl, rfl, wide_mul (a := 36001) (b := 13) (by rw [Int.natAbs_natCast]; exact b4) (by show (((l + j : Nat) : Int) + 1).natAbs < 8192; omega) (by decide) (by decide) (by decide), _, rfl, _, _, rfl, rfl, wide_div (b := 13) (by omega) (by show (1 + (j : Int)).natAbs < 8192; omega) (by decide) (by decide), some (.int (1 + (j : Int))), ?_, rfl, b3⟩
        have e1 : (((M * ch (l + j) j : Nat) : Int) * (((l + j : Nat) : Int) + 1)) / (1 + (j : Int)) = ((M * ch (l + (j + 1)) (j + 1) : Nat) : Int) := by
          have e2 : ((M * ch (l + j) j : Nat) : Int) * (((l + j : Nat) : Int) + 1) = ((M * ch (l + (j + 1)) (j + 1) : Nat) : Int) * (1 + (j : Int)) := by
            have := congrArg (fun n : Nat => (n : Int)) e0
            simp only [Int.natCast_mul] at this ⊢
            rw [show (1 : Int) + (j : Int) = ((j + 1 : Nat) : Int) by omega, show ((l + j : Nat) : Int) + 1 = ((l + j + 1 : Nat) : Int) by omega]
            exact this
          rw [e2]
          exact Int.mul_ediv_cancel _ (by omega)
        have e3 : V.int (((M * ch (l + j) j : Nat) : Int) * (((l + j : Nat) : Int) + 1) / (1 + (j : Int))) = natV (M * ch (l + (j + 1)) (j + 1)) := by
          unfold natV
          rw [e1]
        have e4 : V.int (((l + j : Nat) : Int) + 1) = natV (l + (j + 1)) := by
          unfold natV
          congr 1
        rw [← e3, ← e4]
        rfl
      · obtain ⟨y6, rfl, rfl, bd2⟩ := hP
        have e : (r.2 + 1 - 1).toNat = r.2.toNat := by omega
        rw [e] at bd2 ⊢
        exact ⟨_, _, _, rfl, rfl, bd2⟩
    · obtain ⟨y3, y4, y5, rfl, rfl, _⟩ := hP
      rw [lx, List.take_length]
      exact ⟨_, rfl, q _ (s1.trans s2)⟩
end
end UP

set_option Elab.async false
set_option linter.all false
set_option maxRecDepth 100000
set_option maxHeartbeats 4000000
set_option pp.maxSteps 600
namespace UP
open PySem PySem.Spec PyProof.Rows L2
theorem getF_in : ∀ {f : DFn} {p : Option Run × Nat}, (f.map (·.1)).Nodup → p ∈ f → getF f p.1 = p.2
  | q :: t, p, nd, h => by
    obtain ⟨n1, n2⟩ := List.nodup_cons.mp nd
    rcases List.mem_cons.mp h with e | e
    · rw [e]
      show (if q.1 = q.1 then q.2 else _) = q.2
      rw [if_pos rfl]
    · show (if q.1 = p.1 then q.2 else getF t p.1) = p.2
      rw [if_neg (fun z : q.1 = p.1 => n1 (List.mem_map.mpr ⟨p, e, z.symm⟩))]
      exact getF_in n2 e
theorem getF_pos : ∀ {f : DFn} {s : Option Run}, 0 < getF f s → ∃ n, (s, n) ∈ f ∧ getF f s = n
  | q :: t, s, h => by
    have h : 0 < (if q.1 = s then q.2 else getF t s) := h
    by_cases c : q.1 = s
    · refine ⟨q.2, ?_, ?_⟩
      · rw [← c]
        exact List.mem_cons_self ..
      · show (if q.1 = s then q.2 else getF t s) = q.2
        rw [if_pos c]
    · rw [if_neg c] at h
      obtain ⟨n, h1, h2⟩ := getF_pos h
      refine ⟨n, List.mem_cons_of_mem _ h1, ?_⟩
      show (if q.1 = s then q.2 else getF t s) = n
      rw [if_neg c]
      exact h2
theorem suf_neX : ∀ (T : Nat) {cs : List Run}, Okc cs → (lenR cs).toNat = T → sufL T cs ≠ []
  | 0, cs, ok, hT => List.cons_ne_nil _ _
  | T + 1, cs, ok, hT => by
    cases cs with
    | nil => cases hT
    | cons r u =>
      have hr : r ∈ r :: u := List.mem_cons_self ..
      have hl := less_len ok hr
      have ih := suf_neX T (less_ok ok r.1) (by omega)
      obtain ⟨l, hl2⟩ := List.exists_mem_of_ne_nil _ ih
      intro z
      have : (r.1 :: l) ∈ sufL (T + 1) (r :: u) := List.mem_flatMap.mpr ⟨r, hr, List.mem_map.mpr ⟨l, hl2, rfl⟩⟩
      rw [z] at this
      cases this
theorem some_end {cs : List Run} (ok : Okc cs) : ∃ s, 0 < numE cs s := by
  obtain ⟨l, hl⟩ := List.exists_mem_of_ne_nil _ (suf_neX _ ok rfl)
  refine ⟨stI l none, List.count_pos_iff.mpr ((ends_suf ok).mem_iff.mp (List.mem_map.mpr ⟨l, hl, rfl⟩))⟩
def esF (f : DFn) : List (Option Run × Int) := f.map fun p => (p.1, ((p.2 : Nat) : Int))
theorem best_of {cs : List Run} (ok : Okc cs) {f : DFn} (nd : (f.map (·.1)).Nodup) (num : ∀ s, getF f s = numE cs s) : 0 < f.length ∧ ∀ (i : Nat) (p : Option Run × Nat), f[i]? = some p → i = argBest (ltRk (esF f)) (f.length - 1) → BestE cs p.1 p.2 := by
  obtain ⟨s0, h0⟩ := some_end ok
  rw [← num] at h0
  have fl : 0 < f.length := by
    obtain ⟨n, hn, _⟩ := getF_pos h0
    exact List.length_pos_iff.mpr (List.ne_nil_of_mem hn)
  refine ⟨fl, fun i p hp hi => ?_⟩
  obtain ⟨_, hb⟩ := best_rk (esF f) (f.length - 1)
  rw [← hi] at hb
  have at_ : ∀ {j : Nat} {q : Option Run × Nat}, f[j]? = some q → ((esF f)[j]?).getD (none, 0) = (q.1, ((q.2 : Nat) : Int)) := fun {j q} h => by
    unfold esF
    rw [List.getElem?_map, h]
    rfl
  have best : ∀ {q : Option Run × Nat}, q ∈ f → ¬ (p.2 < q.2 ∨ (q.2 = p.2 ∧ ltP q.1 p.1)) := fun {q} hq z => by
    obtain ⟨j, hj⟩ := List.getElem?_of_mem hq
    have jl : j < f.length := (List.getElem?_eq_some_iff.mp hj).1
    have h1 := hb j (by omega)
    unfold ltRk at h1
    rw [at_ hj, at_ hp] at h1
    have h2 : PySem.W.dataLt (dRk (q.1, ((q.2 : Nat) : Int))) (dRk (p.1, ((p.2 : Nat) : Int))) = true := (dlt_rk _ _).mpr (by
      rcases z with z | z
      · exact .inl (by show ((p.2 : Nat) : Int) < ((q.2 : Nat) : Int); omega)
      · exact .inr ⟨by show ((q.2 : Nat) : Int) = ((p.2 : Nat) : Int); omega, z.2⟩)
    rw [h2] at h1
    cases h1
  have pin := List.mem_of_getElem? hp
  have pn : numE cs p.1 = p.2 := by rw [← num]; exact getF_in nd pin
  have top : ∀ s, numE cs s ≤ p.2 := fun s => by
    rcases Nat.eq_zero_or_pos (getF f s) with z | z
    · rw [← num, z]
      exact Nat.zero_le _
    · obtain ⟨n, h1, h2⟩ := getF_pos z
      rw [← num, h2]
      exact Classical.byContradiction fun c => best h1 (.inl (by show p.2 < n; omega))
  have pp : 0 < p.2 := by
    have := top s0
    rw [← num] at this
    omega
  refine ⟨pn, pp, top, fun s hs lt => ?_⟩
  obtain ⟨n, h1, h2⟩ := getF_pos (f := f) (s := s) (by rw [num, hs]; exact pp)
  rw [num, hs] at h2
  exact best h1 (.inr ⟨h2.symm, lt⟩)
section
variable {P : Program} {w : World} {K : PySem.W.Frag} {mg : Str → Option Value} {base : Heap}
/-! rank_of: slots 0:entry 1:state 2:orders -/
abbrev s_rank_of : Stmt := topS 52
theorem sc_rank_of : FnScope ["entry", "state", "orders"] ["entry"] (defScope s_rank_of) := ⟨rfl, rfl, rfl, by decide +kernel, rfl, by decide +kernel, by decide +kernel⟩
theorem ok_rank_of (D : Df K mg "rank_of" s_rank_of) (T : Tx mg) : Has P w K mg base 1 "rank_of" ["entry"] sp_rank_of := by
  refine has_of D sc_rank_of (fun _ _ _ _ _ _ us hl => match us, hl with | [_], _ => rfl) (fun vs H Q E h => ?_) (fun f cdv A₀ outer s₀ H vs Q E hr h => ?_)
  · obtain ⟨_, _, _, rfl, _⟩ := h
    rfl
  · obtain ⟨a, v, n, rfl, ha, hv, q⟩ := h
    refine ⟨_, (pss_cons (ps_asg (pv 0) (pg_tup rfl (pgs_cons (pg_name (i := 1) sc_rank_of.nd rfl (by first | exact Or.inl rfl | exact Or.inr rfl)) (pgs_cons (pg_name (i := 2) sc_rank_of.nd rfl (by first | exact Or.inl rfl | exact Or.inr rfl)) pgs_nil))))
    (pss_one (ps_ret (pe_tup (pa_cons (pe_un un_neg (pv 2)) (pa_cons (pe_ifExp (pt_cmpR op_isN (pv 1) pe_non (nomark _)) (pe_tup pa_nil) (pv 1)) pa_nil)))))), ?_⟩
    refine ⟨_, rfl, a, _, rfl, .of ha, rfl, _, _, rfl, _, _, rfl, rfl, _, rfl, _, rfl, _, rfl, rfl, _, rfl, ?_⟩
    rcases hv with rfl | ⟨u, rfl⟩
    · refine iteP (decide_eq_true rfl) ⟨Nat.zero_le _, fun u nu => ⟨(by show 2 ≤ sizeLine; decide), fun p np => ?_⟩⟩
      have np2 := (same_upd (o := .tup []) nu).free np
      exact q _ p _ np2 upd_same (.inl ⟨rfl, u, rfl, nu, same_upd np _ _ upd_same⟩)
    · refine iteN (decide_eq_false (fun z => by cases z)) ⟨_, rfl, (by show 2 ≤ sizeLine; decide), fun p np => ?_⟩
      exact q _ p _ np upd_same (.inr ⟨(fun z => by cases z), rfl⟩)
/-! likeliest_state: slots 0:counts -/
abbrev s_likeliest_state : Stmt := topS 53
theorem sc_likeliest_state : FnScope ["counts"] ["counts"] (defScope s_likeliest_state) := ⟨rfl, rfl, rfl, by decide +kernel, rfl, by decide +kernel, by decide +kernel⟩
def sp_likeliest_state : Sp := fun vs H Q _ => ∃ (v : V) (cs : List Run), vs = [v] ∧ RunsG H v cs ∧ CtOk cs ∧ prodM cs ≤ 3000 ∧ ∀ H' p x st n, Same H H' → H' p = some (.tup [x, natV n]) → StV H' x st → BestE cs st n → Q (.ref p) H'
theorem ok_likeliest_state (D : Df K mg "likeliest_state" s_likeliest_state) (T : Tx mg) (G_checked_counts : Has P w K mg base 5 "checked_counts" ["counts"] sp_checked_counts) (G_check_product : Has P w K mg base 2 "check_product" ["counts"] sp_check_product) (G_rank_of : Has P w K mg base 1 "rank_of" ["entry"] sp_rank_of)
    (G_ways_to : Has P w K mg base 3 "ways_to" ["counts"] (sp_ways_to w)) : Has P w K mg base 6 "likeliest_state" ["counts"] sp_likeliest_state := by
  refine has_of D sc_likeliest_state (fun _ _ _ _ _ _ us hl => match us, hl with | [_], _ => rfl) (fun vs H Q E h => ?_) (fun f cdv A₀ outer s₀ H vs Q E hr h => ?_)
  · obtain ⟨_, _, rfl, _⟩ := h
    rfl
  · obtain ⟨v, cs, rfl, hR, ok, p3, q⟩ := h
    have okc : Okc cs := ⟨fun r hr => (ok.2.1 r hr).2.1, ok.2.2⟩
    have P0 := prodM_pos cs
    refine ⟨_, (pss_cons (ps_set (i := 0) sc_likeliest_state.nd rfl (by first | exact Or.inl rfl | exact Or.inr rfl) (pe_callH G_checked_counts (hr.mono (by omega)) (by rfl) (pa_cons (pv 0) pa_nil)))
    (pss_cons (ps_expr (pe_callH G_check_product (hr.mono (by omega)) (by rfl) (pa_cons (pv 0) pa_nil)))
    (pss_one (ps_ret (pe_minR G_rank_of (hr.mono (by omega)) rfl (by rfl) T.n_min (by decide +kernel) (by rfl) (pa_cons (pe_listItemsX (w := w) rfl (by rfl) (pe_ix ix_list (pe_callH G_ways_to (hr.mono (by omega)) (by rfl) (pa_cons (pv 0) pa_nil)) (pe_un un_neg pe_int) (fun _ _ => rfl)) (by rfl) T.n_list (by decide +kernel)) pa_nil)))))), ?_⟩
    refine ⟨_, rfl, v, cs, rfl, hR, ok, fun H1 a s1 na hR1 => ?_⟩
    refine ⟨_, rfl, a, cs, rfl, hR1, ok, p3, fun H3 s3 => ?_⟩
    refine ⟨_, rfl, a, cs, rfl, hR1.same s3, ok, p3, fun H4 L ds s4 nL nds W => ?_⟩
    have b := main_box cs (prodM cs) (Nat.le_refl _)
    have ll : prodM cs - 1 < (mainF cs (prodM cs)).length := by rw [b.len]; omega
    obtain ⟨d, hd, rows, dx, pr⟩ := W.get ll
    have ln := W.len
    obtain ⟨f, ef⟩ : ∃ f, (mainF cs (prodM cs))[prodM cs - 1] = f := ⟨_, rfl⟩
    have efq : (mainF cs (prodM cs))[prodM cs - 1]? = some f := by rw [List.getElem?_eq_getElem ll, ef]
    rw [ef] at pr
    have few := b.few (by rw [List.length_map]; exact ok.1) p3 efq
    have nd := b.once _ _ efq
    have num : ∀ s, getF f s = numE cs s := fun s => by
      have lv := last_num okc s
      unfold valF at lv
      rw [efq] at lv
      exact lv
    obtain ⟨fl, bst⟩ := best_of okc nd num
    have lr : rows.length = f.length := Paired.len pr
    refine ⟨_, rfl, L, _, _, _, rfl, rfl, .of W.lst, atI_neg1 (k := prodM cs - 1) (by rw [List.length_map, ln, b.len]; omega) (by rw [List.getElem?_map, hd]; rfl), d, rows, rfl, dx, Nat.le_of_lt (small (by omega)), fun H5 R ts s5 nR hR5 lts tt => ?_⟩
    have itm : Paired (ItmV H5) (ts.map V.ref) f := by
      refine paired_ofX (by rw [List.length_map, lts, lr]) fun j x p h1 h2 => ?_
      rw [List.getElem?_map] at h1
      cases e1 : ts[j]? with
      | none => rw [e1] at h1; cases h1
      | some t =>
        rw [e1] at h1
        obtain rfl : V.ref t = x := Option.some.inj h1
        have jl : j < rows.length := by rw [lr]; exact (List.getElem?_eq_some_iff.mp h2).1
        obtain ⟨p', e2, g1, g2⟩ := Paired.at pr (List.getElem?_eq_getElem jl)
        rw [h2] at e2
        cases e2
        have hk := (dx.keys _ (List.getElem_mem jl)).tell
        rw [g1] at hk
        have hT := tt j t _ e1 (List.getElem?_eq_getElem jl)
        rw [g2] at hT
        exact ⟨t, _, rfl, hT, (st_back hk).same s5⟩
    have lts2 : (ts.map V.ref).length = f.length := by rw [List.length_map, lts, lr]
    have ent : Paired (EnT H5) (ts.map V.ref) (esF f) := by
      refine paired_ofX (by unfold esF; rw [lts2, List.length_map]) fun j x e h1 h2 => ?_
      unfold esF at h2
      rw [List.getElem?_map] at h2
      obtain ⟨p, e2, t, y, rfl, g1, g2⟩ := Paired.at itm h1
      rw [e2] at h2
      cases h2
      exact ⟨t, y, rfl, g1, g2⟩
    refine ⟨R, _, esF f, rfl, hR5, by rw [lts2]; exact fl, ent, fun i x hi hx ei => ?_⟩
    obtain ⟨p, e2, t, y, rfl, g1, g2⟩ := Paired.at itm hx
    rw [lts2] at ei
    exact q H5 t y p.1 p.2 (s1.trans (s3.trans (s4.trans s5))) g1 g2 (bst i p e2 ei)
end
end UP

set_option Elab.async false
set_option linter.all false
set_option maxRecDepth 100000
set_option maxHeartbeats 4000000
set_option pp.maxSteps 700
namespace UP
open PySem PySem.Spec PyProof.Rows L2
/-! ### all orders together -/
def facR : List Run → Nat
  | [] => 1
  | r :: t => fac r.2.toNat * facR t
theorem facR_pos : ∀ cs : List Run, 0 < facR cs
  | [] => Nat.one_pos
  | r :: t => Nat.mul_pos (fac_pos _) (facR_pos t)
theorem facR_app (b : List Run) : ∀ a : List Run, facR (a ++ b) = facR a * facR b
  | [] => by show _ = 1 * _; rw [Nat.one_mul]; rfl
  | r :: t => by
    show fac r.2.toNat * facR (t ++ b) = fac r.2.toNat * facR t * facR b
    rw [facR_app b t, Nat.mul_assoc]
theorem facR_posR : ∀ {l : List Run}, (∀ r ∈ l, 0 ≤ r.2) → facR (posR l) = facR l
  | [], _ => rfl
  | r :: t, h => by
    have ih := facR_posR (l := t) fun x hx => h x (List.mem_cons_of_mem _ hx)
    have h0 := h r (List.mem_cons_self ..)
    unfold posR at ih ⊢
    by_cases c : 0 < r.2
    · rw [List.filter_cons_of_pos (by simpa using c)]
      show fac r.2.toNat * _ = fac r.2.toNat * _
      rw [ih]
    · rw [List.filter_cons_of_neg (by simpa using c), ih]
      have e : r.2.toNat = 0 := by omega
      show _ = fac r.2.toNat * facR t
      rw [e]
      exact (Nat.one_mul _).symm
theorem facR_less {cs : List Run} (ok : Okc cs) {r : Run} (hr : r ∈ cs) : facR cs = r.2.toNat * facR (lessR cs r.1) := by
  unfold lessR
  rw [facR_posR (dec_nn ok r.1)]
  obtain ⟨pre, post, sp⟩ := split_of ok.asc hr
  have ho : ∀ l : List Run, (∀ x ∈ l, x.1 ≠ r.1) → l.map (decR r.1) = l := fun l h => by
    conv => rhs; rw [← List.map_id l]
    exact List.map_congr_left fun x hx => by
      show (x.1, x.2 - ite _ _ _) = x
      rw [if_neg (h x hx), Int.sub_zero]
  have e : cs = pre ++ r :: post := sp.eq
  have e2 : decR r.1 r = (r.1, r.2 - 1) := by
    unfold decR
    rw [if_pos rfl]
  have p1 := ok.pos r hr
  have e3 : fac r.2.toNat = r.2.toNat * fac (r.2 - 1).toNat := by
    obtain ⟨n, hn⟩ : ∃ n, r.2.toNat = n + 1 := ⟨r.2.toNat - 1, by omega⟩
    rw [hn, show (r.2 - 1).toNat = n by omega]
    rfl
  rw [e, List.map_append, List.map_cons, ho pre sp.pre, ho post sp.post, e2, facR_app, facR_app]
  show facR pre * (fac r.2.toNat * facR post) = r.2.toNat * (facR pre * (fac (r.2 - 1).toNat * facR post))
  rw [e3, Nat.mul_assoc, Nat.mul_left_comm]
theorem lenN_eq : ∀ {cs : List Run}, (∀ r ∈ cs, 1 ≤ r.2) → lenN cs = (lenR cs).toNat
  | [], _ => rfl
  | r :: t, h => by
    have ih := lenN_eq (cs := t) fun x hx => h x (List.mem_cons_of_mem _ hx)
    have h1 := h r (List.mem_cons_self ..)
    have h2 := lenR_nn (rs := t) fun x hx => h x (List.mem_cons_of_mem _ hx)
    have e : lenN (r :: t) = r.2.toNat + lenN t := List.sum_cons
    rw [e, ih, lenR_cons]
    omega
theorem sum_mulR (f : Run → Nat) (c : Nat) : ∀ l : List Run, (l.map f).sum * c = (l.map fun r => f r * c).sum
  | [] => Nat.zero_mul c
  | r :: t => by rw [List.map_cons, List.map_cons, List.sum_cons, List.sum_cons, Nat.add_mul, sum_mulR f c t]
theorem flat_len {α β : Type} (f : α → List β) : ∀ l : List α, (l.flatMap f).length = (l.map fun a => (f a).length).sum
  | [] => rfl
  | a :: t => by rw [List.flatMap_cons, List.length_append, flat_len f t, List.map_cons, List.sum_cons]
theorem ends_fac : ∀ (T : Nat) {cs : List Run}, Okc cs → (lenR cs).toNat = T → (endsR cs).length * facR cs = fac T
  | 0, cs, ok, hT => by
    have en : cs = [] := by
      cases cs with
      | nil => rfl
      | cons r u =>
        have := lenR_mem ok (List.mem_cons_self ..)
        omega
    rw [en]
    rfl
  | T + 1, cs, ok, hT => by
    have nn : cs ≠ [] := fun z => by rw [z] at hT; cases hT
    rw [ends_step ok nn, flat_len, sum_mulR]
    have e : (cs.map fun r => ((endsR (lessR cs r.1)).map fun s => stepR s r.1 1).length * facR cs) = cs.map fun r => r.2.toNat * fac T := List.map_congr_left fun r hr => by
      have h1 := less_len ok hr
      have ih := ends_fac T (less_ok ok r.1) (by omega)
      rw [List.length_map, facR_less ok hr, Nat.mul_left_comm, ih]
    rw [e, ← sum_mulR (fun r => r.2.toNat)]
    have h2 : (cs.map fun r => r.2.toNat).sum = T + 1 := by rw [← hT]; exact lenN_eq ok.pos
    rw [h2]
    rfl
theorem mul_fac : ∀ (l : Nat) (cs : List Run), mulN l cs * facR cs * fac l = fac (l + lenN cs)
  | l, [] => by
    show 1 * 1 * fac l = fac (l + 0)
    simp
  | l, r :: t => by
    have ih := mul_fac (l + r.2.toNat) t
    have cf := ch_fac l r.2.toNat
    have e : lenN (r :: t) = r.2.toNat + lenN t := List.sum_cons
    rw [e, ← Nat.add_assoc, ← ih, ← cf]
    show ch (l + r.2.toNat) r.2.toNat * mulN (l + r.2.toNat) t * (fac r.2.toNat * facR t) * fac l = _
    generalize ch (l + r.2.toNat) r.2.toNat = a
    generalize mulN (l + r.2.toNat) t = b
    generalize fac r.2.toNat = c
    generalize facR t = d
    generalize fac l = e
    have h1 : a * b * (c * d) = b * d * (a * c) := by
      rw [Nat.mul_mul_mul_comm, Nat.mul_comm (a * c)]
    rw [h1, Nat.mul_assoc]
theorem ends_len {cs : List Run} (ok : Okc cs) : (endsR cs).length = mulN 0 cs := by
  have h1 := ends_fac _ ok rfl
  have h2 := mul_fac 0 cs
  rw [Nat.zero_add, lenN_eq ok.pos, ← h1] at h2
  have h3 : mulN 0 cs * facR cs * 1 = (endsR cs).length * facR cs := h2
  rw [Nat.mul_one] at h3
  exact (Nat.eq_of_mul_eq_mul_right (facR_pos cs) h3).symm
/-! ### sums over states -/
theorem sum_count {α : Type} [BEq α] [LawfulBEq α] [DecidableEq α] : ∀ {B L : List α}, B.Nodup → (∀ x ∈ L, x ∈ B) → (B.map fun b => L.count b).sum = L.length
  | [], L, _, h => by
    cases L with
    | nil => rfl
    | cons x t => cases h x (List.mem_cons_self ..)
  | b :: B, L, nd, h => by
    obtain ⟨n1, n2⟩ := List.nodup_cons.mp nd
    have ih := sum_count (B := B) (L := L.filter fun y => decide (y ≠ b)) n2 fun x hx => by
      obtain ⟨h1, h2⟩ := List.mem_filter.mp hx
      rcases List.mem_cons.mp (h x h1) with z | z
      · exact absurd z (of_decide_eq_true h2)
      · exact z
    have e : (B.map fun x => (L.filter fun y => decide (y ≠ b)).count x) = B.map fun x => L.count x := List.map_congr_left fun x hx => by
      rw [List.count_filter]
      exact decide_eq_true fun z => n1 (z ▸ hx)
    rw [e] at ih
    rw [List.map_cons, List.sum_cons, ih]
    have := countP_split (fun _ => true) b L
    simp only [List.countP_true, if_true] at this
    omega
theorem sum_some {α : Type} [BEq α] [LawfulBEq α] [DecidableEq α] {B L : List α} {P : α → Bool} (nd : B.Nodup) (h1 : ∀ x ∈ L, P x = true → x ∈ B) (h2 : ∀ x ∈ B, P x = true) : (B.map fun b => L.count b).sum = L.countP P := by
  have h := sum_count (B := B) (L := L.filter P) nd fun x hx => h1 x (List.mem_filter.mp hx).1 (List.mem_filter.mp hx).2
  have e : (B.map fun x => (L.filter P).count x) = B.map fun x => L.count x := List.map_congr_left fun x hx => List.count_filter (h2 x hx)
  rw [e] at h
  rw [h, List.countP_eq_length_filter]
def everyL (cs : List Run) : List (Option Run) := none :: cs.flatMap fun r => (List.range r.2.toNat).map fun n : Nat => some (r.1, (n : Int) + 1)
theorem every_nodup {cs : List Run} (ok : Okc cs) : (everyL cs).Nodup := by
  refine List.nodup_cons.mpr ⟨fun z => ?_, ?_⟩
  · obtain ⟨r, _, h⟩ := List.mem_flatMap.mp z
    obtain ⟨n, _, h⟩ := List.mem_map.mp h
    cases h
  · have gen : ∀ l : List Run, l.Pairwise (fun x y => x.1.cps.toList < y.1.cps.toList) → (l.flatMap fun r => (List.range r.2.toNat).map fun n : Nat => (some (r.1, (n : Int) + 1) : Option Run)).Nodup := by
      intro l
      induction l with
      | nil => intro _; exact List.nodup_nil
      | cons r t ih =>
        intro h
        obtain ⟨h1, h2⟩ := List.pairwise_cons.mp h
        rw [List.flatMap_cons]
        refine List.nodup_append.mpr ⟨?_, ih h2, fun x hx y hy => ?_⟩
        · refine List.pairwise_map.mpr (List.Pairwise.imp (fun {a b} lt e => ?_) List.pairwise_lt_range)
          simp only [Option.some.injEq, Prod.mk.injEq] at e
          omega
        · obtain ⟨n, _, rfl⟩ := List.mem_map.mp hx
          obtain ⟨q, hq, h⟩ := List.mem_flatMap.mp hy
          obtain ⟨m, _, rfl⟩ := List.mem_map.mp h
          intro e
          have e1 : r.1 = q.1 := by
            simp only [Option.some.injEq, Prod.mk.injEq] at e
            exact e.1
          have := h1 q hq
          rw [e1] at this
          exact List.lt_irrefl _ this
    exact gen cs (asc_pairX.mp ok.asc)
theorem every_has {cs : List Run} (ok : Okc cs) : ∀ s ∈ endsR cs, s ∈ everyL cs := fun s hs => by
  cases s with
  | none => exact List.mem_cons_self ..
  | some r =>
    obtain ⟨q, hq, e⟩ := List.mem_map.mp (ends_kind ok hs)
    have e : q.1 = r.1 := e
    have b := ends_bound ok hs hq e
    have p : 1 ≤ r.2 := ((ends_can ok _).mp hs).1 r rfl
    refine List.mem_cons_of_mem _ (List.mem_flatMap.mpr ⟨q, hq, List.mem_map.mpr ⟨(r.2 - 1).toNat, List.mem_range.mpr (by omega), ?_⟩⟩)
    have e2 : (((r.2 - 1).toNat : Nat) : Int) + 1 = r.2 := by omega
    rw [e2, e]
theorem every_sum {cs : List Run} (ok : Okc cs) : ((everyL cs).map fun s => numE cs s).sum = mulN 0 cs := by
  rw [← ends_len ok]
  exact sum_count (every_nodup ok) (every_has ok)
/-! ### other names -/
def rnR (g : Str → Str) (r : Run) : Run := (g r.1, r.2)
def InjK (g : Str → Str) (ks : List Str) : Prop := ∀ x ∈ ks, ∀ y ∈ ks, g x = g y → x = y
theorem rn_posR (g : Str → Str) (l : List Run) : posR (l.map (rnR g)) = (posR l).map (rnR g) := by
  unfold posR
  rw [List.filter_map]
  rfl
theorem rn_less {g : Str → Str} {cs : List Run} {k : Str} (inj : InjK g (cs.map (·.1))) (hk : k ∈ cs.map (·.1)) : lessR (cs.map (rnR g)) (g k) = (lessR cs k).map (rnR g) := by
  unfold lessR
  rw [← rn_posR, List.map_map, List.map_map]
  congr 1
  refine List.map_congr_left fun r hr => ?_
  show (g r.1, r.2 - if g r.1 = g k then 1 else 0) = (g r.1, r.2 - if r.1 = k then 1 else 0)
  by_cases c : r.1 = k
  · rw [if_pos c, if_pos (by rw [c])]
  · rw [if_neg c, if_neg (fun z => c (inj _ (List.mem_map.mpr ⟨r, hr, rfl⟩) _ hk z))]
theorem less_kin {cs : List Run} {k x : Str} (h : x ∈ (lessR cs k).map (·.1)) : x ∈ cs.map (·.1) := by
  obtain ⟨r, hr, rfl⟩ := List.mem_map.mp h
  obtain ⟨hr, _⟩ := posR_mem.mp hr
  obtain ⟨q, hq, rfl⟩ := List.mem_map.mp hr
  exact List.mem_map.mpr ⟨q, hq, rfl⟩
theorem step_kin {ks : List Str} {s : Option Run} {k : Str} (hk : k ∈ ks) (h : ∀ r, s = some r → r.1 ∈ ks) : ∀ r, stepR s k 1 = some r → r.1 ∈ ks := by
  intro r hr
  cases s with
  | none =>
    obtain rfl : (k, (1 : Int)) = r := Option.some.inj hr
    exact hk
  | some q =>
    have hq := h q rfl
    unfold stepR at hr
    dsimp only at hr
    split at hr
    · cases hr; exact hk
    · split at hr
      · cases hr; exact hq
      · split at hr
        · cases hr
        · cases hr; exact hk
theorem endsL_kin : ∀ (T : Nat) {cs : List Run} {s : Option Run}, s ∈ endsL T cs → ∀ r, s = some r → r.1 ∈ cs.map (·.1)
  | 0, cs, s, h, r, e => by
    rw [List.mem_singleton.mp h] at e
    cases e
  | T + 1, cs, s, h, r, e => by
    obtain ⟨q, hq, h⟩ := List.mem_flatMap.mp h
    obtain ⟨u, hu, rfl⟩ := List.mem_map.mp h
    exact step_kin (List.mem_map.mpr ⟨q, hq, rfl⟩) (fun x hx => less_kin (endsL_kin T hu x hx)) r e
theorem rn_step {g : Str → Str} {ks : List Str} {s : Option Run} {k : Str} (inj : InjK g ks) (hk : k ∈ ks) (h : ∀ r, s = some r → r.1 ∈ ks) : stepR (s.map (rnR g)) (g k) 1 = (stepR s k 1).map (rnR g) := by
  cases s with
  | none => rfl
  | some q =>
    have hq := h q rfl
    show stepR (some (g q.1, q.2)) (g k) 1 = _
    unfold stepR
    dsimp only
    by_cases c : q.1 = k
    · rw [if_pos c, if_pos (by rw [c])]
      rfl
    · rw [if_neg c, if_neg (fun z => c (inj _ hq _ hk z))]
      by_cases d : 0 < q.2 - 1
      · rw [if_pos d, if_pos d]
        rfl
      · rw [if_neg d, if_neg d]
        by_cases e : q.2 - 1 = 0
        · rw [if_pos e, if_pos e]
          rfl
        · rw [if_neg e, if_neg e]
          rfl
theorem rn_ends {g : Str → Str} : ∀ (T : Nat) {cs : List Run}, InjK g (cs.map (·.1)) → endsL T (cs.map (rnR g)) = (endsL T cs).map (Option.map (rnR g))
  | 0, cs, _ => rfl
  | T + 1, cs, inj => by
    show (cs.map (rnR g)).flatMap _ = (cs.flatMap _).map _
    rw [List.flatMap_map, List.map_flatMap]
    have cg : ∀ {l : List Run} {f h : Run → List (Option Run)}, (∀ x ∈ l, f x = h x) → l.flatMap f = l.flatMap h := by
      intro l f h hh
      induction l with
      | nil => rfl
      | cons x t ih =>
        rw [List.flatMap_cons, List.flatMap_cons, hh x (List.mem_cons_self ..), ih fun y hy => hh y (List.mem_cons_of_mem _ hy)]
    refine cg fun r hr => ?_
    have hk : r.1 ∈ cs.map (·.1) := List.mem_map.mpr ⟨r, hr, rfl⟩
    show (endsL T (lessR (cs.map (rnR g)) (g r.1))).map _ = _
    rw [rn_less inj hk, rn_ends T fun x hx y hy => inj x (less_kin hx) y (less_kin hy), List.map_map, List.map_map]
    exact List.map_congr_left fun s hs => rn_step inj hk fun q hq => less_kin (endsL_kin T hs q hq)
theorem rn_lenR (g : Str → Str) : ∀ cs : List Run, lenR (cs.map (rnR g)) = lenR cs
  | [] => rfl
  | r :: t => by
    rw [List.map_cons, lenR_cons, lenR_cons, rn_lenR g t]
    rfl
theorem rn_num {g : Str → Str} {cs : List Run} {s : Option Run} (inj : InjK g (cs.map (·.1))) (h : ∀ r, s = some r → r.1 ∈ cs.map (·.1)) : numE (cs.map (rnR g)) (s.map (rnR g)) = numE cs s := by
  unfold numE endsR
  rw [rn_lenR, rn_ends _ inj, count_map]
  rw [List.count_eq_countP]
  refine List.countP_congr fun x hx => ?_
  have kx := endsL_kin _ hx
  have : x.map (rnR g) = s.map (rnR g) ↔ x = s := by
    constructor
    · intro e
      cases x with
      | none => cases s with
        | none => rfl
        | some r => cases e
      | some q => cases s with
        | none => cases e
        | some r =>
          have e : (g q.1, q.2) = (g r.1, r.2) := Option.some.inj e
          simp only [Prod.mk.injEq] at e
          rw [show q = r from Prod.ext (inj _ (kx q rfl) _ (h r rfl) e.1) e.2]
    · intro e
      rw [e]
  rw [decide_eq_true_iff, this]
  exact (beq_iff_eq (a := x) (b := s)).symm
end UP

set_option Elab.async false
set_option linter.all false
set_option maxRecDepth 100000
set_option maxHeartbeats 4000000
set_option pp.maxSteps 600
namespace UP
open PySem PySem.Spec PyProof.Rows L2
/-- l.count(x): how many are equal -/
def rCntD (K : PySem.W.Frag) : V → List V → Hp → VK → Prop := fun x xs H Q => ∃ (a : Addr) (y : V) (d : PyData) (ds : List PyData), x = .ref a ∧ xs = [y] ∧ Dp K H (.ref a) (.list ds) ∧ Dp K H y d ∧ SeqAt.shaped (.list ds) = true ∧ SeqAt.shaped d = true ∧ Q (.int (ds.countP (fun z => PyData.eqv z d) : Nat)) H
theorem mt_lcountD {X : Cx} (hu : X.A.units + 65 < cLine) : MtR X "list.count" (rCntD X.K) := by
  intro pins s σ H x xs v us Q I rx rxs h
  obtain ⟨a, y, d, ds, rfl, rfl, hl, hy, sl, sd, q⟩ := h
  cases rx
  obtain ⟨uy, rfl, ry⟩ := rxs.one
  obtain ⟨bs, r1⟩ := Dp.reads I d y uy hy ry
  have hxs : PyData.canLayAll0 ds = true := SeqAt.canLay_of_shaped sl
  have hroom : X.A.units + 1 + min (PyData.depthAll ds) d.depth < cLine := room_in_shaped sd hu
  cases hl with
  | lst hs ha =>
    obtain ⟨its, rv, ⟨⟨cls, dd, data, sls⟩, n, ho, hc, hdn, hdt⟩, hlen⟩ := I.list hs
    simp only at hc hdt
    subst hc hdt
    obtain ⟨as, h4⟩ := Dp.readsAll I ds _ its ha rv
    have hmap : its.map (SeqAt.readOf s.heap) = ds := SeqAt.readsAll_map ds its as hxs h4
    refine call_meets PySem.F.slot_list_count ⟨_, ho, rfl⟩ PySem.F.entry_list_count (PySem.F.args_list_count_2 _ _)
      (SeqAt.list_countAt a its.toArray n dd sls uy (fun u => PyData.eqv (SeqAt.readOf s.heap u) d)) ⟨ho, SeqAt.items_eqAt (vs := its.toArray) (show ReadsAll s.heap its.toArray.toList ds as from h4) r1 hxs (SeqAt.canLay_of_shaped sd) hroom, ?_⟩
    have ec : its.toArray.toList.countP (fun u => PyData.eqv (SeqAt.readOf s.heap u) d) = ds.countP (fun z => PyData.eqv z d) := by
      rw [← hmap, List.countP_map]
      rfl
    refine ⟨.int (ds.countP (fun z => PyData.eqv z d) : Nat), H, I.tok _, ⟨s.toks, ?_⟩, q⟩
    show Value.int ((its.toArray.toList.countP (fun u => PyData.eqv (SeqAt.readOf s.heap u) d) : Nat) : Int) s.toks = Value.int ((ds.countP (fun z => PyData.eqv z d) : Nat) : Int) s.toks
    rw [ec]
theorem mt_countDK {X : Cx} {K : PySem.W.Frag} (h : X.K = K) (hu : X.A.units + 65 < cLine) : MtR X "list.count" (rCntD K) := h ▸ mt_lcountD hu
theorem cnt_st (sts : List (Option Run)) (g : Option Run) : (sts.map dOt).countP (fun z => PyData.eqv z (dOt g)) = sts.count g := by
  rw [List.countP_map]
  induction sts with
  | nil => rfl
  | cons s t ih =>
    rw [List.countP_cons, List.count_cons, ih]
    congr 1
    show (if PyData.eqv (dOt s) (dOt g) = true then 1 else 0) = _
    rw [eqv_o]
    by_cases c : s = g
    · rw [decide_eq_true c, if_pos rfl, if_pos (beq_iff_eq.mpr c)]
    · rw [decide_eq_false c, if_neg (by simp), if_neg (fun z => c (beq_iff_eq.mp z))]
/-! ### the states that the law asks for -/
def numL (k : Str) (n : Nat) : List (Option Run) := (List.range n).map fun j => some (k, 1 + ((j : Nat) : Int))
def someL (f : Str → Nat) (ks : List Str) : List (Option Run) := none :: ks.flatMap fun k => numL k (f k)
theorem num_up (k : Str) (n : Nat) : (numL k n).Pairwise ltP := by
  unfold numL
  refine List.pairwise_map.mpr (List.pairwise_lt_range.imp fun {a b} h => ?_)
  exact .inr ⟨rfl, by show 1 + ((a : Nat) : Int) < 1 + ((b : Nat) : Int); omega⟩
theorem mem_num {k : Str} {n : Nat} {s : Option Run} : s ∈ numL k n ↔ ∃ c : Int, s = some (k, c) ∧ 1 ≤ c ∧ c ≤ n := by
  constructor
  · intro h
    obtain ⟨j, hj, rfl⟩ := List.mem_map.mp h
    have := List.mem_range.mp hj
    exact ⟨_, rfl, by omega, by omega⟩
  · rintro ⟨c, rfl, h1, h2⟩
    refine List.mem_map.mpr ⟨(c - 1).toNat, List.mem_range.mpr (by omega), ?_⟩
    rw [show 1 + (((c - 1).toNat : Nat) : Int) = c by omega]
theorem flat_up (f : Str → Nat) : ∀ {cs : List Run}, cs.Pairwise (fun x y => x.1.cps.toList < y.1.cps.toList) → ((cs.map (·.1)).flatMap fun k => numL k (f k)).Pairwise ltP
  | [], _ => .nil
  | r :: t, h => by
    obtain ⟨h1, h2⟩ := List.pairwise_cons.mp h
    rw [List.map_cons, List.flatMap_cons]
    refine List.pairwise_append.mpr ⟨num_up _ _, flat_up f h2, fun x hx y hy => ?_⟩
    obtain ⟨c, rfl, _⟩ := mem_num.mp hx
    obtain ⟨k, hk, hy⟩ := List.mem_flatMap.mp hy
    obtain ⟨d, rfl, _⟩ := mem_num.mp hy
    obtain ⟨q, hq, rfl⟩ := List.mem_map.mp hk
    exact .inl (h1 q hq)
theorem some_up (f : Str → Nat) {cs : List Run} (asc : Asc cs) : (someL f (cs.map (·.1))).Pairwise ltP := by
  refine List.pairwise_cons.mpr ⟨fun y hy => ?_, flat_up f (asc_pairX.mp asc)⟩
  obtain ⟨k, hk, hy⟩ := List.mem_flatMap.mp hy
  obtain ⟨d, rfl, _⟩ := mem_num.mp hy
  trivial
theorem pick {A B : List (Option Run)} {f : Option Run → Nat} {st u : Option Run} {n j : Nat} (up : A.Pairwise ltP) (hst : st ∈ A) (hn : f st = n) (first : ∀ s, f s = n → ¬ ltP s st) (hu : (A ++ B)[j]? = some u) (hm : f u = n) (hj : ∀ m u', m < j → (A ++ B)[m]? = some u' → f u' ≠ n) : u = st := by
  obtain ⟨i, hi⟩ := List.getElem?_of_mem hst
  have il : i < A.length := (List.getElem?_eq_some_iff.mp hi).1
  have hi2 : (A ++ B)[i]? = some st := by rw [List.getElem?_append_left il]; exact hi
  by_cases c : i < j
  · exact absurd hn (hj i st c hi2)
  · by_cases e : j = i
    · rw [e, hi2] at hu
      exact (Option.some.inj hu).symm
    · rw [List.getElem?_append_left (by omega)] at hu
      have h1 := (List.getElem?_eq_some_iff.mp hu).2
      have h2 := (List.getElem?_eq_some_iff.mp hi).2
      have := List.pairwise_iff_getElem.mp up j i (by omega) il (by omega)
      rw [h1, h2] at this
      exact absurd this (first u hm)
theorem stI_le8 : ∀ (l : List Str) (s : Option Run), PosO s → numR (stI l s) ≤ numR s + (l.length : Int)
  | [], s, _ => by show numR s ≤ numR s + 0; omega
  | x :: t, s, h => by
    have h1 := stI_le8 t (stepR s x 1) (stepR_pos h (by decide))
    have h2 : numR (stepR s x 1) ≤ numR s + 1 := by
      cases s with
      | none => show (1 : Int) ≤ 0 + 1; decide
      | some r =>
        have r1 := h r rfl
        by_cases c : r.1 = x
        · rw [step_same c]
          show r.2 + 1 ≤ r.2 + 1
          omega
        · rw [step_other c]
          split
          · show r.2 - 1 ≤ r.2 + 1
            omega
          · rw [if_pos (show r.2 - 1 = 0 by omega)]
            show (0 : Int) ≤ r.2 + 1
            omega
    rw [List.length_cons]
    show numR (stI t (stepR s x 1)) ≤ _
    omega
/-- a state that is reached -/
theorem reached_in {cs : List Run} (ok : Okc cs) {st : Option Run} (h : 0 < numE cs st) : st = none ∨ ∃ r c, r ∈ cs ∧ st = some (r.1, c) ∧ 1 ≤ c ∧ c ≤ lenR cs := by
  have l0 := lenR_nnX ok
  have hm := List.count_pos_iff.mp h
  have hm2 := (ends_mem _ ok rfl st).mp hm
  have can := (ends_can ok st).mp hm
  obtain ⟨l, wd, rfl⟩ := hm2
  have ll := wd_len _ ok rfl wd
  have bl := stI_le8 l none (fun _ h => by cases h)
  cases e : stI l none with
  | none => exact .inl rfl
  | some r =>
    obtain ⟨q, hq, hk⟩ := List.mem_map.mp (can.2.1 r e)
    have hk : q.1 = r.1 := hk
    rw [e] at bl
    have bl : r.2 ≤ 0 + (l.length : Int) := bl
    exact .inr ⟨q, r.2, hq, by rw [hk], can.1 r e, by omega⟩
theorem reached_some {cs : List Run} (ok : Okc cs) {f : Str → Nat} (hf : ∀ r ∈ cs, lenR cs ≤ f r.1) {st : Option Run} (h : 0 < numE cs st) : st ∈ someL f (cs.map (·.1)) := by
  rcases reached_in ok h with rfl | ⟨r, c, hr, rfl, c1, c2⟩
  · exact List.mem_cons_self ..
  · refine List.mem_cons_of_mem _ (List.mem_flatMap.mpr ⟨r.1, List.mem_map.mpr ⟨r, hr, rfl⟩, mem_num.mpr ⟨c, rfl, c1, ?_⟩⟩)
    have := hf r hr
    omega
theorem some_len7 (ks : List Str) : (someL (fun _ => 7) ks).length = 1 + 7 * ks.length := by
  unfold someL
  have h : ∀ ks : List Str, (ks.flatMap fun k => numL k 7).length = 7 * ks.length := by
    intro ks
    induction ks with
    | nil => rfl
    | cons k t ih =>
      rw [List.flatMap_cons, List.length_append, ih, List.length_cons]
      show ((List.range 7).map _).length + _ = _
      rw [List.length_map, List.length_range]
      omega
  rw [List.length_cons, h]
  omega
theorem prod_twoX : ∀ {cs : List Run}, (∀ r ∈ cs, 1 ≤ r.2) → prodM cs ≤ 2 ^ (lenR cs).toNat
  | [], _ => Nat.le_refl _
  | r :: t, h => by
    have ht : ∀ x ∈ t, 1 ≤ x.2 := fun x hx => h x (List.mem_cons_of_mem _ hx)
    have ih := prod_twoX ht
    have h1 := h r (List.mem_cons_self ..)
    have h2 := lenR_nn ht
    have e : (lenR (r :: t)).toNat = r.2.toNat + (lenR t).toNat := by
      rw [lenR_cons]
      omega
    rw [prodM, e, Nat.pow_add]
    exact Nat.mul_le_mul (Nat.succ_le_of_lt Nat.lt_two_pow_self) ih
theorem le_lenX : ∀ (cs : List Run), (∀ r ∈ cs, 1 ≤ r.2) → ∀ r ∈ cs, r.2 ≤ lenR cs
  | q :: t, h, r, hr => by
    have ht : ∀ x ∈ t, 1 ≤ x.2 := fun x hx => h x (List.mem_cons_of_mem _ hx)
    have h1 := h q (List.mem_cons_self ..)
    have h2 := lenR_nn ht
    rw [lenR_cons]
    rcases List.mem_cons.mp hr with e | e
    · rw [e]; omega
    · have := le_lenX t ht r e
      omega
theorem stI_okY : ∀ (l : List Str) (s : Option Run), (∀ x ∈ l, KindOk x) → StOk s → StOk (stI l s)
  | [], s, _, h => h
  | x :: t, s, hx, h => stI_okY t _ (fun y hy => hx y (List.mem_cons_of_mem _ hy)) (stOk_stepC h (hx x (List.mem_cons_self ..)) (by decide))
theorem noint_st {H : Hp} {p a : Addr} {xs : List V} {os : List (Option Run)} (z : Reel H p) (h : H a = some (.lst xs)) (hp : Paired (StV H) xs os) : a ≠ p := by
  have n : ∀ x ∈ xs, ∀ i, x ≠ .int i := fun x hx i e => by
    obtain ⟨j, hj, e2⟩ := List.mem_iff_getElem.mp hx
    obtain ⟨s, _, hs⟩ := Paired.at hp (List.getElem?_eq_getElem hj)
    rw [e2, e] at hs
    cases s with
    | none => cases hs
    | some r =>
      obtain ⟨t, e3, _⟩ := hs
      cases e3
  obtain ⟨g, c, _, _, i, s, hz, _⟩ := z
  intro e
  rw [e, hz] at h
  cases h
  exact n (.int i) (by simp) i rfl
end UP

set_option Elab.async false
set_option linter.all false
set_option maxRecDepth 100000
set_option maxHeartbeats 4000000
set_option pp.maxSteps 700
namespace UP
open PySem PySem.Spec PyProof.Rows L2
theorem flat_inv {α β : Type} {f : α → List β} : ∀ {A : List α} {k : Nat} {y : β}, (A.flatMap f)[k]? = some y → ∃ (j : Nat) (a : α) (kj : Nat), A[j]? = some a ∧ k = ((A.take j).map fun x => (f x).length).sum + kj ∧ (f a)[kj]? = some y
  | [], k, y, h => by cases h
  | x :: A, k, y, h => by
    rw [List.flatMap_cons] at h
    rcases Nat.lt_or_ge k (f x).length with lt | ge
    · rw [List.getElem?_append_left lt] at h
      exact ⟨0, x, k, rfl, by simp, h⟩
    · rw [List.getElem?_append_right ge] at h
      obtain ⟨j, a, kj, h1, h2, h3⟩ := flat_inv h
      refine ⟨j + 1, a, kj, h1, ?_, h3⟩
      rw [List.take_succ_cons, List.map_cons, List.sum_cons]
      omega
theorem go_inv {cs : List Run} (ok : Okc cs) {m : Nat} (hm : m + 1 < prodM cs) {s g : Option Run} {k : Nat} {l : List Str} (h : (goL cs m s g)[k]? = some l) :
    ∃ (j : Nat) (a : Str × Nat) (kj : Nat) (t : List Str), (arrM cs m)[j]? = some a ∧ k = (((arrM cs m).take j).map fun b => restN cs b.2 (stepR s b.1 1) g).sum + kj ∧ (goL cs a.2 (stepR s a.1 1) g)[kj]? = some t ∧ l = a.1 :: t := by
  rw [go_step ok hm] at h
  obtain ⟨j, a, kj, h1, h2, h3⟩ := flat_inv h
  rw [List.getElem?_map] at h3
  cases e : (goL cs a.2 (stepR s a.1 1) g)[kj]? with
  | none => rw [e] at h3; cases h3
  | some t =>
    rw [e] at h3
    refine ⟨j, a, kj, t, h1, ?_, e, (Option.some.inj h3).symm⟩
    rw [h2]
    congr 2
    exact List.map_congr_left fun b _ => List.length_map ..
theorem arr_asc {cs : List Run} (ok : Okc cs) {m i j : Nat} {a b : Str × Nat} (hi : (arrM cs m)[i]? = some a) (hj : (arrM cs m)[j]? = some b) (lt : i < j) : a.1.cps.toList < b.1.cps.toList := by
  have e := left_arr ok m
  have ei : ((leftAt cs m).map (·.1))[i]? = some a.1 := by rw [e, List.getElem?_map, hi]; rfl
  have ej : ((leftAt cs m).map (·.1))[j]? = some b.1 := by rw [e, List.getElem?_map, hj]; rfl
  rw [List.getElem?_map] at ei ej
  cases h1 : (leftAt cs m)[i]? with
  | none => rw [h1] at ei; cases ei
  | some x =>
    cases h2 : (leftAt cs m)[j]? with
    | none => rw [h2] at ej; cases ej
    | some y =>
      rw [h1] at ei
      rw [h2] at ej
      have := asc_lt (left_ok ok m).asc i j x y lt h1 h2
      rw [← Option.some.inj ei, ← Option.some.inj ej]
      exact this
section
variable {P : Program} {w : World} {K : PySem.W.Frag} {mg : Str → Option Value} {base : Heap}
def sp_is_order : Sp := fun vs H Q _ => ∃ (b a : Addr) (cs : List Run) (l : List Str), vs = [.ref b, .ref a] ∧ Sq2 H b (l.map V.str) ∧ Runs H a cs ∧ CtOk cs ∧ lenR cs ≤ 1500 ∧ l ∈ sufR cs ∧ ∀ H', Same H H' → Q (.bl true) H'
/-! order_index: slots 0:counts 1:items 2:state 3:item 4:rest 5:steps 6:index 7:mark 8:reached 9:choices 10:kind 11:after 12:following 13:orders -/
abbrev s_order_index : Stmt := topS 51
theorem sc_order_index : FnScope ["counts", "items", "state", "item", "rest", "steps", "index", "mark", "reached", "choices", "kind", "after", "following", "orders"] ["counts", "items"] (defScope s_order_index) := ⟨rfl, rfl, rfl, by decide +kernel, rfl, by decide +kernel, by decide +kernel⟩
def sp_order_index : Sp := fun vs H Q _ => ∃ (v : V) (b : Addr) (cs : List Run) (i : Nat) (l : List Str), vs = [v, .ref b] ∧ RunsG H v cs ∧ CtOk cs ∧ prodM cs ≤ 3000 ∧ lenR cs ≤ 1500 ∧ Sq2 H b (l.map V.str) ∧ (goL cs 0 none (stI l none))[i]? = some l ∧ StOk (stI l none) ∧ ∀ H', Same H H' → Q (natV i) H'
theorem ok_order_index (D : Df K mg "order_index" s_order_index) (T : Tx mg) (G_checked_counts : Has P w K mg base 5 "checked_counts" ["counts"] sp_checked_counts) (G_check_product : Has P w K mg base 2 "check_product" ["counts"] sp_check_product) (G_is_order : Has P w K mg base 3 "is_order" ["value", "counts"] sp_is_order)
    (G_state_after_run : Has P w K mg base 2 "state_after_run" ["state", "kind", "count"] sp_state_after_run) (G_ways_from : Has P w K mg base 4 "ways_from" ["counts", "state"] (sp_ways_from w)) (G_steps_of : Has P w K mg base 1 "steps_of" ["counts"] sp_steps_of)
    (G_choices_at : Has P w K mg base 3 "choices_at" ["steps", "rest", "mark", "state"] (sp_choices_at w)) : Has P w K mg base 6 "order_index" ["counts", "items"] sp_order_index := by
  refine has_of D sc_order_index (fun _ _ _ _ _ _ us hl => match us, hl with | [_, _], _ => rfl) (fun vs H Q E h => ?_) (fun f cdv A₀ outer s₀ H vs Q E hr h => ?_)
  · obtain ⟨_, _, _, _, _, rfl, _⟩ := h
    rfl
  · obtain ⟨v, b, cs, i, l, rfl, hR, ok, p3, l60, hb, hl, so, q⟩ := h
    have okc : Okc cs := ⟨fun r hr => (ok.2.1 r hr).2.1, ok.2.2⟩
    have P0 := prodM_pos cs
    have lsuf : l ∈ sufR cs := by
      have := List.mem_of_getElem? hl
      unfold goL at this
      rw [left_zero okc] at this
      exact (List.mem_filter.mp this).1
    refine ⟨_, (pss_cons (ps_set (i := 0) sc_order_index.nd rfl (by first | exact Or.inl rfl | exact Or.inr rfl) (pe_callH G_checked_counts (hr.mono (by omega)) (by rfl) (pa_cons (pv 0) pa_nil)))
    (pss_cons (ps_expr (pe_callH G_check_product (hr.mono (by omega)) (by rfl) (pa_cons (pv 0) pa_nil)))
    (pss_cons (ps_if (pt_not (pt_val (pe_callH G_is_order (hr.mono (by omega)) (by rfl) (pa_cons (pv 1) (pa_cons (pv 0) pa_nil))))) (pss_one ps_never) pss_nil)
    (pss_cons (ps_set (i := 2) sc_order_index.nd rfl (by first | exact Or.inl rfl | exact Or.inr rfl) pe_non)
    (pss_cons (ps_for PassesOwn.never rfl (pi_seqV 1) (pg_name (i := 3) sc_order_index.nd rfl (by first | exact Or.inl rfl | exact Or.inr rfl))
      (pss_one (ps_set (i := 2) sc_order_index.nd rfl (by first | exact Or.inl rfl | exact Or.inr rfl) (pe_callH G_state_after_run (hr.mono (by omega)) (by rfl) (pa_cons (pv 2) (pa_cons (pv 3) (pa_cons pe_int pa_nil)))))))
    (pss_cons (ps_set (i := 4) sc_order_index.nd rfl (by first | exact Or.inl rfl | exact Or.inr rfl) (pe_callH G_ways_from (hr.mono (by omega)) (by rfl) (pa_cons (pv 0) (pa_cons (pv 2) pa_nil))))
    (pss_cons (ps_set (i := 5) sc_order_index.nd rfl (by first | exact Or.inl rfl | exact Or.inr rfl) (pe_callH G_steps_of (hr.mono (by omega)) (by rfl) (pa_cons (pv 0) pa_nil)))
    (pss_cons (ps_set (i := 6) sc_order_index.nd rfl (by first | exact Or.inl rfl | exact Or.inr rfl) pe_int)
    (pss_cons (ps_set (i := 7) sc_order_index.nd rfl (by first | exact Or.inl rfl | exact Or.inr rfl) pe_int)
    (pss_cons (ps_set (i := 8) sc_order_index.nd rfl (by first | exact Or.inl rfl | exact Or.inr rfl) pe_non)
    (pss_cons (ps_for PassesOwn.never rfl (pi_seqV 1) (pg_name (i := 3) sc_order_index.nd rfl (by first | exact Or.inl rfl | exact Or.inr rfl))
      (pss_cons (ps_set (i := 9) sc_order_index.nd rfl (by first | exact Or.inl rfl | exact Or.inr rfl) (pe_callH G_choices_at (hr.mono (by omega)) (by rfl) (pa_cons (pv 5) (pa_cons (pv 4) (pa_cons (pv 7) (pa_cons (pv 8) pa_nil))))))
    (pss_one (ps_for PassesOwn.never rfl (pi_list (pv 9)) (pg_tup rfl (pgs_cons (pg_name (i := 10) sc_order_index.nd rfl (by first | exact Or.inl rfl | exact Or.inr rfl)) (pgs_cons (pg_name (i := 11) sc_order_index.nd rfl (by first | exact Or.inl rfl | exact Or.inr rfl)) (pgs_cons (pg_name (i := 12) sc_order_index.nd rfl (by first | exact Or.inl rfl | exact Or.inr rfl)) (pgs_cons (pg_name (i := 13) sc_order_index.nd rfl (by first | exact Or.inl rfl | exact Or.inr rfl)) pgs_nil)))))
      (pss_one (ps_if (pt_cmpR op_lt_str (pv 10) (pv 3) (nomark _)) (pss_one (ps_aug (i := 6) sc_order_index.nd rfl (by first | exact Or.inl rfl | exact Or.inr rfl) (pv 13) ip_add)) (pss_one (ps_if (pt_cmpR op_eq (pv 10) (pv 3) (nomark _)) (pss_cons (ps_set (i := 7) sc_order_index.nd rfl (by first | exact Or.inl rfl | exact Or.inr rfl) (pv 11))
    (pss_one (ps_set (i := 8) sc_order_index.nd rfl (by first | exact Or.inl rfl | exact Or.inr rfl) (pv 12)))) pss_nil))))))))
    (pss_one (ps_ret (pv 6)))))))))))))), ?_⟩
    refine ⟨_, rfl, v, cs, rfl, hR, ok, fun H1 a s1 na hR1 => ?_⟩
    refine ⟨_, rfl, a, cs, rfl, hR1, ok, p3, fun H2 s2 => ?_⟩
    have s02 := s1.trans s2
    refine ⟨_, rfl, _, rfl, b, a, cs, l, rfl, hb.same s02, hR1.same s2, ok, l60, lsuf, fun H3 s3 => ⟨true, rfl, iteF ?_⟩⟩
    have s03 := s02.trans s3
    have hR3 := hR1.same (s2.trans s3)
    have hb3 := hb.same s03
    refine ⟨b, _, rfl, hb3, fun J wk => for_wk wk (fun t σ H' => ∃ vr y3, σ = [some (.ref a), some (.ref b), some vr, y3, none, none, none, none, none, none, none, none, none, none] ∧ Same H3 H' ∧ StV H' vr (stI (l.take t) none)) (fun _ σ H' hP => by obtain ⟨_, _, _, s, _⟩ := hP; exact s) ⟨.non, none, rfl, Same.refl _, rfl⟩ (fun t x σ H4 ex hP => ?_) (fun σ H4 hP => ?_)⟩
    · obtain ⟨vr, y3, rfl, s4, hvr⟩ := hP
      obtain ⟨kd, ek, rfl⟩ := str_at ex
      refine ⟨_, rfl, _, rfl, vr, _, kd, 1, rfl, hvr, by decide, fun H5 v5 s5 hv5 => ?_⟩
      refine ⟨v5, some (.str kd), rfl, s4.trans s5, ?_⟩
      rw [take_snoc ek, stI_snocP]
      exact hv5
    obtain ⟨vr, y3, rfl, s4, hvr⟩ := hP
    rw [List.length_map, List.take_length] at hvr
    obtain ⟨g, eg⟩ : ∃ g, stI l none = g := ⟨_, rfl⟩
    rw [eg] at hvr hl so
    have s04 := s03.trans s4
    have hR4 := hR3.same s4
    refine ⟨_, rfl, _, rfl, a, vr, cs, g, rfl, hR4, ok, p3, hvr, so, fun H5 R rs s5 nR nrs W => ?_⟩
    refine ⟨_, rfl, a, cs, rfl, hR4.same s5, ok, p3, fun H6 S s6 nS stp => ?_⟩
    have W6 := W.same s6
    have s06 := s04.trans (s5.trans s6)
    refine ⟨b, _, rfl, hb.same s06, fun J wk => for_wk wk (fun t σ H' => ∃ y3 idx m k s vr2 y9 y10 y11 y12 y13, σ = [some (.ref a), some (.ref b), some vr, y3, some (.ref R), some (.ref S), some (natV idx), some (natV m), some vr2, y9, y10, y11, y12, y13] ∧ Same H6 H' ∧ StV H' vr2 s ∧ s ∈ (atF cs m).map (·.1) ∧ m < prodM cs ∧ (goL cs m s g)[k]? = some (l.drop t) ∧ idx + k = i) (fun _ σ H' hP => by obtain ⟨_, _, _, _, _, _, _, _, _, _, _, _, s, _⟩ := hP; exact s) ⟨_, 0, 0, i, none, .non, _, _, _, _, _, rfl, Same.refl _, rfl, at_first okc, P0, by rw [List.drop_zero]; exact hl, Nat.zero_add i⟩ (fun t x σ H7 ex hP => ?_) (fun σ H7 hP => ?_)⟩
    · obtain ⟨y3, idx, m, k, s, vr2, y9, y10, y11, y12, y13, rfl, s7, hv7, ks, hm, hgo, hik⟩ := hP
      obtain ⟨kd, ek, rfl⟩ := str_at ex
      have tl : t < l.length := (List.getElem?_eq_some_iff.mp ek).1
      have ed : l.drop t = kd :: l.drop (t + 1) := by
        rw [List.drop_eq_getElem_cons tl]
        congr 1
        rw [List.getElem?_eq_getElem tl] at ek
        exact Option.some.inj ek
      rw [ed] at hgo
      have hm1 : m + 1 < prodM cs := Classical.byContradiction fun z => by
        have em : m = prodM cs - 1 := by omega
        rw [em, go_last okc] at hgo
        split at hgo
        · cases k with
          | zero => cases hgo
          | succ k => cases hgo
        · cases hgo
      obtain ⟨j, ⟨kd', z⟩, kj, tl2, hj, hk, hgz, hcons⟩ := go_inv okc hm1 hgo
      obtain ⟨rfl, rfl⟩ : kd = kd' ∧ l.drop (t + 1) = tl2 := by
        have h1 := List.cons.inj hcons
        exact ⟨h1.1, h1.2⟩
      have marr := List.mem_of_getElem? hj
      obtain ⟨_, _, am3⟩ := arr_mem hm marr
      have am3 : z < prodM cs := am3
      have kz : stepR s kd 1 ∈ (atF cs z).map (·.1) := at_step okc hm ks marr
      refine ⟨_, rfl, _, rfl, _, rfl, _, rfl, S, R, rs, cs, g, s, m, vr2, rfl, stp.same s7, W6.same s7, ok, p3, hm, hv7, ks, fun H8 C xs s8 hC hx => ?_⟩
      have lx : xs.length = (arrM cs m).length := Paired.len hx
      refine ⟨_, rfl, C, rfl, ⟨xs, .of hC⟩, for_list (K := K) (a := C) (xs := xs) (fun y σ H' => ∃ m' s' vr3 y10 y11 y12 y13, σ = [some (.ref a), some (.ref b), some vr, some (.str kd), some (.ref R), some (.ref S), some (natV (idx + (((arrM cs m).take (min y j)).map fun b => restN cs b.2 (stepR s b.1 1) g).sum)), some (natV m'), some vr3, some (.ref C), y10, y11, y12, y13] ∧ H' = H8 ∧ StV H8 vr3 s' ∧ (y ≤ j → m' = m ∧ s' = s) ∧ (j < y → m' = z ∧ s' = stepR s kd 1)) ⟨m, s, vr2, y10, y11, y12, y13, (by rw [Nat.zero_min, List.take_zero]; rfl), rfl, hv7.same s8, fun _ => ⟨rfl, rfl⟩, fun h => absurd h (Nat.not_lt_zero _)⟩ (fun y σ H' _ hP => ?_) (fun y x σ H9 ex9 hP => ?_) (fun σ H9 hP => ?_)⟩
      · obtain ⟨_, _, _, _, _, _, _, _, rfl, _⟩ := hP
        exact .of hC
      · obtain ⟨m', s', vr3, y10, y11, y12, y13, rfl, rfl, hv3, le1, le2⟩ := hP
        obtain ⟨⟨ky, zy⟩, ey, t2, vz, rfl, ht, hvz⟩ := Paired.at hx ex9
        refine ⟨t2, _, rfl, .of ht, rfl, _, _, rfl, _, _, rfl, _, _, rfl, _, _, rfl, rfl, ?_⟩
        refine ⟨_, rfl, _, rfl, _, _, rfl, rfl, _, rfl, ite2 (fun e => ?_) (fun e => ?_)⟩
        · have yj : y < j := by
            rcases Nat.lt_trichotomy y j with h | h | h
            · exact h
            · subst h
              rw [hj] at ey
              cases Option.some.inj ey
              exact absurd (of_decide_eq_true e) (List.lt_irrefl _)
            · exact absurd (of_decide_eq_true e) (List.lt_asymm (arr_asc okc hj ey h))
          have mn : min y j = y := Nat.min_eq_left (Nat.le_of_lt yj)
          have mn1 : min (y + 1) j = y + 1 := Nat.min_eq_left yj
          refine ⟨_, rfl, _, rfl, _, _, rfl, rfl, m', s', vr3, some (.str ky), some (natV zy), some vz, some (natV (restN cs zy (stepR s ky 1) g)), ?_, rfl, hv3, fun _ => le1 (Nat.le_of_lt yj), fun h => absurd h (by omega)⟩
          have e1 : V.int (((idx + (((arrM cs m).take (min y j)).map fun b => restN cs b.2 (stepR s b.1 1) g).sum : Nat) : Int) + ((restN cs zy (stepR s ky 1) g : Nat) : Int)) = natV (idx + (((arrM cs m).take (min (y + 1) j)).map fun b => restN cs b.2 (stepR s b.1 1) g).sum) := by
            rw [mn, mn1, take_snoc ey, List.map_append, List.sum_append]
            unfold natV
            congr 1
            simp only [List.map_cons, List.map_nil, List.sum_cons, List.sum_nil]
            omega
          rw [← e1]
          rfl
        · have e : ¬ ky.cps.toList < kd.cps.toList := fun z => e (decide_eq_true z)
          have jy : j ≤ y := Classical.byContradiction fun h => e (arr_asc okc ey hj (by omega))
          have mn : min y j = j := Nat.min_eq_right jy
          have mn1 : min (y + 1) j = j := Nat.min_eq_right (by omega)
          rw [mn, mn1]
          refine ⟨_, rfl, _, rfl, rfl, _, rfl, ite2 (fun c => ?_) (fun c => ?_)⟩
          · have c : ky = kd := by
              have := of_decide_eq_true c
              simpa using this
            have yj : y = j := Classical.byContradiction fun n => by
              have := arr_asc okc hj ey (by omega)
              rw [c] at this
              exact List.lt_irrefl _ this
            subst yj
            rw [hj] at ey
            cases Option.some.inj ey
            exact ⟨_, rfl, _, rfl, z, stepR s kd 1, vz, some (.str kd), some (natV z), some vz, some (natV (restN cs z (stepR s kd 1) g)), rfl, rfl, hvz, fun h => absurd h (by omega), fun _ => ⟨rfl, rfl⟩⟩
          · have c2 : ky ≠ kd := fun h => c (decide_eq_true (by show V.str ky = V.str kd; rw [h]))
            have yj : j < y := by
              rcases Nat.lt_or_ge j y with h | h
              · exact h
              · have : y = j := by omega
                subst this
                rw [hj] at ey
                cases Option.some.inj ey
                exact absurd rfl c2
            exact ⟨m', s', vr3, some (.str ky), some (natV zy), some vz, some (natV (restN cs zy (stepR s ky 1) g)), rfl, rfl, hv3, fun h => absurd h (by omega), fun _ => le2 yj⟩
      · obtain ⟨m', s', vr3, y10, y11, y12, y13, rfl, rfl, hv3, le1, le2⟩ := hP
        have jl : j < xs.length := by
          rw [lx]
          exact (List.getElem?_eq_some_iff.mp hj).1
        obtain ⟨rfl, rfl⟩ := le2 jl
        rw [Nat.min_eq_right (Nat.le_of_lt jl)]
        exact ⟨_, _, _, kj, _, _, _, _, _, _, _, rfl, s7.trans s8, hv3, kz, am3, hgz, by omega⟩
    · obtain ⟨y3, idx, m, k, s, vr2, y9, y10, y11, y12, y13, rfl, s7, hv7, ks, hm, hgo, hik⟩ := hP
      rw [List.length_map, List.drop_length] at hgo
      have em : m = prodM cs - 1 := Classical.byContradiction fun n => by
        obtain ⟨_, _, _, _, _, _, _, h⟩ := go_inv okc (by omega) hgo
        cases h
      rw [em, go_last okc] at hgo
      have k0 : k = 0 := by
        split at hgo
        · cases k with
          | zero => rfl
          | succ k => cases hgo
        · cases hgo
      have ei : idx = i := by omega
      rw [ei]
      exact ⟨_, rfl, q _ (s06.trans s7)⟩
end
end UP

set_option Elab.async false
set_option linter.all false
set_option maxRecDepth 100000
set_option maxHeartbeats 4000000
set_option pp.maxSteps 500
namespace UP
open PySem PySem.Spec PyProof.Rows L2
/-- sorted(x), a list or a tuple of texts -/
def rSortSq (K : PySem.W.Frag) : List V → Hp → VK → Prop := fun vs H Q => ∃ (a : Addr) (xs : List Str), vs = [V.ref a] ∧ (SqL K H a (xs.map V.str) ∨ SqT K H a (xs.map V.str)) ∧ xs.length ≤ 3000 ∧ ∀ (ys : List Str) (p : Addr), ys.Perm xs → sortedS ys = true → H p = none → Q (.ref p) (upd H p (.lst (ys.map V.str)))
theorem cr_sortedSq {X : Cx} : CallR X (.builtin "sorted") (rSortSq X.K) := by
  intro ps s σ H vs us Q I rv h
  obtain ⟨a, xs, rfl, hs, h64, q⟩ := h
  rcases hs with hs | hs
  · obtain ⟨its, rr, hl, _⟩ := I.list hs
    rw [Vals.ref1 rv]
    have hlen0 := rr.length
    rw [List.length_map] at hlen0
    refine PyProof.Rows.sorted_strsAny hl.isList rr.strs (by rw [← hlen0]; exact Nat.le_of_lt (small (by omega))) fun out ys h1 h2 h3 => ?_
    obtain ⟨ep, he'⟩ := PyProof.Rows.sortedAll_at s.heap its out
    have hlen : (ys.map V.str).length ≤ sizeLine := by rw [List.length_map, h2.length_eq]; exact Nat.le_of_lt (small (by omega))
    exact ⟨.ref _, upd H (s.heap.objs.size + 1) (.lst (ys.map V.str)), I.laid (t' := s.toks) (fun _ _ => PyProof.Rows.sortedAll_old) (Nat.le_succ _) ⟨hlen, out.toList, ep, vals_of_strs h1, he'⟩, rfl, q ys _ h2 h3 (I.hok.fresh (Nat.le_succ _))⟩
  · obtain ⟨its, rr, pl, _⟩ := I.tuple hs
    rw [Vals.ref1 rv]
    have hlen := rr.length
    rw [List.length_map] at hlen
    obtain ⟨o, ho, hc, n, hd⟩ := pl
    have hl64 : its.length ≤ sizeLine := by rw [← hlen]; exact Nat.le_of_lt (small (by omega))
    have hS := rr.strs
    refine Calls.call_function_entry kind_sorted plain_sorted entry_sorted (args_sorted1 _) ?_
    unfold Builtin.«sorted»
    refine wpAny_bind (m := checkCount "sorted" 1 1 _) (wpAny_pure ?_)
    refine wpAny_bind (wpAny_collect_seq a (.inr rfl) ho hc hd (fun h' kp => ?_) (by rw [List.size_toArray]; exact hl64))
    rw [List.toList_toArray]
    refine wpAny_bind (wpAny_newList ?_ hl64)
    have fr : s.heap.get? h'.objs.size = none := by
      cases e : s.heap.get? h'.objs.size with
      | none => rfl
      | some o' => exact absurd (Heap.lt_size (kp _ _ e)) (Nat.lt_irrefl _)
    have hoL : (h'.push (seqObj "list" its.toArray 0)).get? h'.objs.size = some (seqObj "list" its.toArray 0) := Heap.get?_push_size _ rfl
    show wpAny _ _ _ _ _ { s with heap := h'.push (seqObj "list" its.toArray 0) }
    refine wpAny_bind (wpAny_holding (wpAny_call_entry slot_list_sort ⟨_, hoL, rfl⟩ entry_list_sort (list_sort_treeKAny strKind_oneLt hoL hS.keysOf (fun v₁ v₂ rest e => keyKind_strs (by rw [← e]; exact hS)) hl64 fun st' a1 a2 => ⟨_, rfl, ?_⟩) (args_list_sort _)))
    obtain ⟨ys, b1, b2, b3⟩ := sorted_out_str hS a1 a2
    obtain ⟨ep, he'⟩ := sortedHeap_at (vs := its) (out := (arrOf st').map (·.2)) hoL
    have ly : (ys.map V.str).length ≤ sizeLine := by rw [List.length_map, b2.length_eq]; exact Nat.le_of_lt (small (by omega))
    have nH : H h'.objs.size = none := (I.hok.kept kp).fresh (Nat.le_refl _)
    refine wpAny_pure ⟨_, rfl, .ref _, upd H h'.objs.size (.lst (ys.map V.str)), I.laidN (t' := s.toks) (fun b u e => ?_) fr nH ⟨ly, ((arrOf st').map (·.2)).toList, ep, vals_of_strs b1, he'⟩, rfl, q ys _ b2 b3 nH⟩
    have bl := Heap.lt_size (kp _ _ e)
    rw [sortedHeap_old (Nat.ne_of_lt bl) (by rw [size_push']; exact Nat.lt_succ_of_lt bl)]
    exact Heap.get?_push_of_some _ (kp _ _ e)
end UP

set_option Elab.async false
set_option linter.all false
set_option maxRecDepth 100000
set_option maxHeartbeats 4000000
set_option pp.maxSteps 500
namespace UP
open PySem PySem.Spec PyProof.Rows L2
theorem rising_pw : ∀ (l : List Str) (p : Str), risingS p l = true → (p :: l).Pairwise fun x y => ¬ y.cps.toList < x.cps.toList
  | [], p, _ => List.pairwise_singleton _ _
  | x :: l, p, h => by
    have h : (!ltCps x.cps.toList p.cps.toList && risingS x l) = true := h
    rw [Bool.and_eq_true] at h
    have hx : ¬ x.cps.toList < p.cps.toList := by
      have h1 := h.1
      rw [ltCps_eq] at h1
      intro z
      rw [decide_eq_true z] at h1
      cases h1
    have ih := rising_pw l x h.2
    refine List.pairwise_cons.mpr ⟨fun y hy => ?_, ih⟩
    rcases List.mem_cons.mp hy with e | e
    · rw [e]
      exact hx
    · intro z
      have hy2 := (List.pairwise_cons.mp ih).1 y e
      exact hx (List.lt_of_le_of_lt (List.not_lt.mp hy2) z)
theorem str_tri {x y : Str} (h1 : ¬ y.cps.toList < x.cps.toList) (h2 : ¬ x.cps.toList < y.cps.toList) : x = y := by
  refine Classical.byContradiction fun n => ?_
  exact h2 (lt_of_not n h1)
theorem sorted_uniq : ∀ {l m : List Str}, (l.Pairwise fun x y => ¬ y.cps.toList < x.cps.toList) → (m.Pairwise fun x y => ¬ y.cps.toList < x.cps.toList) → l.Perm m → l = m
  | [], m, _, _, p => (List.nil_perm.mp p).symm
  | x :: l, [], _, _, p => by
    have := p.length_eq
    cases this
  | x :: l, y :: m, hl, hm, p => by
    obtain ⟨a1, a2⟩ := List.pairwise_cons.mp hl
    obtain ⟨b1, b2⟩ := List.pairwise_cons.mp hm
    have xy : x = y := by
      refine Classical.byContradiction fun n => n ?_
      have hx : x ∈ m := (List.mem_cons.mp (p.mem_iff.mp (List.mem_cons_self ..))).elim (fun e => absurd e n) id
      have hy : y ∈ l := (List.mem_cons.mp (p.mem_iff.mpr (List.mem_cons_self ..))).elim (fun e => absurd e.symm n) id
      exact str_tri (a1 y hy) (b1 x hx)
    subst xy
    rw [sorted_uniq a2 b2 p.cons_inv]
theorem it_up : ∀ {cs : List Run}, cs.Pairwise (fun x y => x.1.cps.toList < y.1.cps.toList) → (itR cs).Pairwise fun x y => ¬ y.cps.toList < x.cps.toList
  | [], _ => .nil
  | r :: t, h => by
    obtain ⟨h1, h2⟩ := List.pairwise_cons.mp h
    have e : itR (r :: t) = List.replicate r.2.toNat r.1 ++ itR t := rfl
    rw [e]
    refine List.pairwise_append.mpr ⟨?_, it_up h2, fun x hx y hy => ?_⟩
    · refine List.pairwise_iff_getElem.mpr fun i j hi hj _ => ?_
      rw [List.getElem_replicate, List.getElem_replicate]
      exact List.lt_irrefl _
    · rw [(List.mem_replicate.mp hx).2]
      obtain ⟨q, hq, rfl, _⟩ := mem_it hy
      exact List.lt_asymm (h1 q hq)
theorem it_posR : ∀ l : List Run, itR (posR l) = itR l
  | [] => rfl
  | r :: t => by
    have ih := it_posR t
    have e : itR (r :: t) = List.replicate r.2.toNat r.1 ++ itR t := rfl
    unfold posR at ih ⊢
    by_cases c : 0 < r.2
    · rw [List.filter_cons_of_pos (by simpa using c), e, ← ih]
      rfl
    · rw [List.filter_cons_of_neg (by simpa using c), ih, e, show r.2.toNat = 0 by omega]
      rfl
theorem suf_perm : ∀ (T : Nat) {cs : List Run} {l : List Str}, Okc cs → (lenR cs).toNat = T → l ∈ sufL T cs → l.Perm (itR cs)
  | 0, cs, l, ok, hT, h => by
    have en : cs = [] := by
      cases cs with
      | nil => rfl
      | cons r u =>
        have := lenR_mem ok (List.mem_cons_self ..)
        omega
    rw [List.mem_singleton.mp h, en]
    exact List.Perm.refl _
  | T + 1, cs, l, ok, hT, h => by
    obtain ⟨r, hr, h⟩ := List.mem_flatMap.mp h
    obtain ⟨t, ht, rfl⟩ := List.mem_map.mp h
    have hl := less_len ok hr
    have ih := suf_perm T (less_ok ok r.1) (by omega) ht
    obtain ⟨pre, post, sp⟩ := split_of ok.asc hr
    have p1 := ok.pos r hr
    have hw := it_cwX sp (Int.le_refl 1) p1
    have e : itR (lessR cs r.1) = itR (cwR cs (some (r.1, 1))) := by
      unfold lessR
      rw [it_posR]
      congr 1
      refine List.map_congr_left fun x _ => Prod.ext rfl ?_
      show x.2 - (if x.1 = r.1 then 1 else 0) = if V.str r.1 = V.str x.1 then x.2 - 1 else x.2
      by_cases c : x.1 = r.1
      · rw [if_pos c, if_pos (by rw [c])]
      · rw [if_neg c, if_neg (fun z => c (V.str.inj z).symm), Int.sub_zero]
    rw [e] at ih
    refine ((ih.cons r.1).trans ?_).trans hw
    exact (List.perm_append_singleton r.1 _).symm
/-- a comprehension with two sources: the first a list that the block leaves as it is -/
theorem lc2_list {K : PySem.W.Frag} {a : Addr} {xs : List V} {g : TG} {tt : TT} {vs : List Nat} {σ : L2.St} {H1 : Hp} {D : Addr} {Qd : Hp → Prop} {R : (Hp → Prop) → L2.St → Hp → Prop} (Pv : Nat → Hp → Prop) (h0 : Pv 0 (upd H1 D (.lst []))) (hl : ∀ i H, i ≤ xs.length → Pv i H → SqL K H a xs)
    (hs : ∀ i x H, xs[i]? = some x → Pv i H → g x (wipe σ vs) H fun σ2 H2 => wipe σ2 vs = wipe σ vs ∧ tt σ2 H2 fun b H3 => if b = true then R (Pv (i + 1)) σ2 H3 else Pv (i + 1) H3) (hd : ∀ H, Pv xs.length H → Qd H) :
    ∃ W : Nat → Nat → Hp → Prop, (∃ m, W 0 m (upd H1 D (.lst []))) ∧ ∀ i m H, W i m H →
      ((Itl K a).stop i H ∧ Qd H) ∨ ((Itl K a).go i H ∧ ∃ Nx : Hp → Prop, (∀ H', Nx H' → ∃ m', m' < m ∧ W (i + 1) m' H') ∧ ∀ x H', (Itl K a).yld i H x H' → g x (wipe σ vs) H' fun σ2 H2 => wipe σ2 vs = wipe σ vs ∧ tt σ2 H2 fun b H3 =>
        if b = true then R Nx σ2 H3 else Nx H3) := by
  refine ⟨fun i m H => m = xs.length - i ∧ i ≤ xs.length ∧ Pv i H, ⟨xs.length, by simp, Nat.zero_le _, h0⟩, ?_⟩
  rintro i m H ⟨rfl, hi, p⟩
  have q := hl i H hi p
  by_cases hlt : i < xs.length
  · refine .inr ⟨⟨xs, xs[i], q, by simp [hlt]⟩, Pv (i + 1), fun H' p' => ⟨xs.length - (i + 1), by omega, rfl, hlt, p'⟩, fun x H' y => ?_⟩
    obtain ⟨e, y⟩ := y
    subst e
    exact hs i x _ (y xs q) p
  · have e : i = xs.length := by omega
    subst e
    exact .inl ⟨⟨xs, q, Nat.le_refl _⟩, hd H p⟩
/-- the second source, numbers one behind another -/
theorem lc2_rng {n : Nat} {lo : Int} {g1 : TG} {tt1 : TT} {te : TE} {vs1 : List Nat} {σ2 : L2.St} {H4 : Hp} {D : Addr} {Nx : Hp → Prop} (Pw : Nat → Hp → Prop) (h0 : Pw 0 H4)
    (hs : ∀ (j : Nat) H, j < n → Pw j H → g1 (.int (lo + j)) (wipe σ2 vs1) H fun σ3 H5 => wipe σ3 vs1 = wipe σ2 vs1 ∧ tt1 σ3 H5 fun b H6 =>
      if b = true then te σ3 H6 fun y H7 => ∃ acc, H7 D = some (.lst acc) ∧ acc.length < sizeLine ∧ Pw (j + 1) (upd H7 D (.lst (acc ++ [y]))) else Pw (j + 1) H6) (hd : ∀ H, Pw n H → Nx H) :
    ∃ W1 : Nat → Nat → Hp → Prop, (∃ m, W1 0 m H4) ∧ ∀ j k H, W1 j k H →
      ((Itr lo n).stop j H ∧ Nx H) ∨ ((Itr lo n).go j H ∧ ∃ Nx1 : Hp → Prop, (∀ H', Nx1 H' → ∃ k', k' < k ∧ W1 (j + 1) k' H') ∧ ∀ x H', (Itr lo n).yld j H x H' → g1 x (wipe σ2 vs1) H' fun σ3 H5 => wipe σ3 vs1 = wipe σ2 vs1 ∧ tt1 σ3 H5 fun b H6 =>
        if b = true then te σ3 H6 fun y H7 => ∃ acc, H7 D = some (.lst acc) ∧ acc.length < sizeLine ∧ Nx1 (upd H7 D (.lst (acc ++ [y]))) else Nx1 H6) := by
  refine ⟨fun j m H => m = n - j ∧ j ≤ n ∧ Pw j H, ⟨n, by simp, Nat.zero_le _, h0⟩, ?_⟩
  rintro j m H ⟨rfl, hj, p⟩
  by_cases hlt : j < n
  · refine .inr ⟨hlt, Pw (j + 1), fun H' p' => ⟨n - (j + 1), by omega, rfl, hlt, p'⟩, fun x H' y => ?_⟩
    obtain ⟨e, y⟩ := y
    subst e y
    exact hs j _ hlt p
  · have e : j = n := by omega
    subst e
    exact .inl ⟨Nat.le_refl _, hd H p⟩
theorem it_snoc (l : List Run) (r : Run) : itR (l ++ [r]) = itR l ++ List.replicate r.2.toNat r.1 := by
  unfold itR
  rw [List.flatMap_append, List.flatMap_cons, List.flatMap_nil, List.append_nil]
section
variable {P : Program} {w : World} {K : PySem.W.Frag} {mg : Str → Option Value} {base : Heap}
/-! is_order: slots 0:value 1:counts 2:each 3:kind 4:count 5:item -/
abbrev s_is_order : Stmt := topS 47
theorem sc_is_order : FnScope ["value", "counts", "each", "kind", "count", "item"] ["value", "counts"] (defScope s_is_order) := ⟨rfl, rfl, rfl, by decide +kernel, rfl, by decide +kernel, by decide +kernel⟩
theorem ok_is_order (D : Df K mg "is_order" s_is_order) (T : Tx mg) (G_is_listed : Has P w K mg base 1 "is_listed" ["value", "most"] sp_is_listed) (G_length_of : Has P w K mg base 1 "length_of" ["runs"] sp_length_of) (G_is_kind : Has P w K mg base 1 "is_kind" ["value"] sp_is_kind) : Has P w K mg base 3 "is_order" ["value", "counts"] sp_is_order := by
  refine has_of D sc_is_order (fun _ _ _ _ _ _ us hl => match us, hl with | [_, _], _ => rfl) (fun vs H Q E h => ?_) (fun f cdv A₀ outer s₀ H vs Q E hr h => ?_)
  · obtain ⟨_, _, _, _, rfl, _⟩ := h
    rfl
  · obtain ⟨b, a, cs, l, rfl, hb, hR, ok, l60, hl, q⟩ := h
    have okc : Okc cs := ⟨fun r hr => (ok.2.1 r hr).2.1, ok.2.2⟩
    have pm := suf_perm _ okc rfl hl
    have ll : ((l.length : Nat) : Int) = lenR cs := by
      rw [pm.length_eq]
      exact len_it0 cs fun r hr => by have := okc.pos r hr; omega
    have lk : ∀ s ∈ l, KindOk s := fun s hs => by
      obtain ⟨r, hr, rfl, _⟩ := mem_it (pm.mem_iff.mp hs)
      exact (ok.2.1 r hr).1
    refine ⟨_, (pss_cons (ps_if (PW.pt (pw_or (pt_not (pt_val (pe_callH G_is_listed (hr.mono (by omega)) (by rfl) (pa_cons (pv 0) (pa_cons (pe_callH G_length_of (hr.mono (by omega)) (by rfl) (pa_cons (pv 1) pa_nil)) pa_nil))))) (pw_or1 (pt_not (pt_val (pe_callB (cr_all rfl) (by rfl) T.n_all (by decide +kernel) (pa_cons (pe_lc (own := [("item", 5)]) rfl sc_is_order.nd (pi_seqV 0) (blkOk_by (N := ["value", "counts", "each", "kind", "count", "item"]) (sc := defScope s_is_order) (by decide +kernel)) (fun _ _ _ _ _ => (pg_name (i := 5) sc_is_order.nd rfl (by first | exact Or.inl rfl | exact Or.inr rfl))) (fun _ _ _ _ _ => pts_nil) (fun _ _ _ _ _ => (pe_callH G_is_kind (hr.mono (by omega)) (by rfl) (pa_cons (pv 5) pa_nil)))) pa_nil))))))) (pss_one (ps_ret pe_bl)) pss_nil)
    (pss_one (ps_ret (pe_cmpR (op_eqD hr.units) (pe_callB cr_sortedSq (by rfl) T.n_sorted (by decide +kernel) (pa_cons (pv 0) pa_nil)) (pe_lc2 (own := [("kind", 3), ("count", 4), ("each", 2)]) (vs1 := [2]) rfl sc_is_order.nd (pi_list (pv 1)) (blkOk_by (N := ["value", "counts", "each", "kind", "count", "item"]) (sc := defScope s_is_order) (by decide +kernel)) (by decide) (fun _ _ _ _ _ => (pg_tupK (K := K) (n := 2) rfl rfl (pgs_cons (pg_name (i := 3) sc_is_order.nd rfl (by first | exact Or.inl rfl | exact Or.inr rfl)) (pgs_cons (pg_name (i := 4) sc_is_order.nd rfl (by first | exact Or.inl rfl | exact Or.inr rfl)) pgs_nil)))) (fun _ _ _ _ _ => pts_nil) (fun _ _ _ _ _ => (pi_range1 (by rfl) T.n_range (pa_cons (pv 4) pa_nil))) (fun _ _ _ _ _ => (pg_name (i := 2) sc_is_order.nd rfl (by first | exact Or.inl rfl | exact Or.inr rfl))) (fun _ _ _ _ _ => pts_nil) (fun _ _ _ _ _ => (pv 3))) (nomark _))))), ?_⟩
    refine ⟨_, rfl, _, rfl, a, cs, rfl, hR, by have := ok.1; omega, fun H1 s1 => ⟨b, _, lenR cs, rfl, hb.same s1, fun H2 s2 => ⟨_, rfl, iteN ?_ ?_⟩⟩⟩
    · rw [List.length_map, decide_eq_true (by omega)]
      rfl
    have s02 := s1.trans s2
    refine ⟨b, _, rfl, hb.same s02, fun J wk L nL => lc_wk wk (fun i H' => Same H2 H' ∧ H' L = some (.lst ((List.replicate i true).map V.bl))) (fun _ _ p => p.1) ⟨same_upd nL, upd_same⟩ (fun i x H3 ex p => ?_) (fun H3 p => ?_)⟩
    · obtain ⟨sm, hL⟩ := p
      obtain ⟨k, ek, rfl⟩ := str_at ex
      have hi : i < l.length := (List.getElem?_eq_some_iff.mp ek).1
      refine ⟨rfl, yesT ⟨_, rfl, k, rfl, lk k (List.mem_of_getElem? ek), fun H4 s4 => ⟨_, s4 _ _ hL, ?_, same_grow nL (sm.trans s4), ?_⟩⟩⟩
      · rw [List.length_map, List.length_replicate]
        exact small (by omega)
      · rw [upd_same, List.replicate_succ', List.map_append]
        rfl
    obtain ⟨s3, hL⟩ := p
    refine ⟨L, _, rfl, .of hL, _, rfl, iteN ?_ ?_⟩
    · rw [List.length_map, all_rep]
      rfl
    have s03 := s02.trans s3
    have ll60 : l.length ≤ 1500 := by omega
    refine ⟨_, rfl, b, l, rfl, ?_, by omega, fun ys p0 pmy so np => ?_⟩
    · rcases hb.same s03 with h | h
      · exact .inl (.of h)
      · exact .inr (.of h)
    have ey : ys = itR cs := by
      refine sorted_uniq ?_ (it_up (asc_pairX.mp ok.2.2)) (pmy.trans pm)
      cases ys with
      | nil => exact .nil
      | cons x t => exact (List.pairwise_cons.mp (rising_pw t x so)).2 |> fun _ => rising_pw t x so
    subst ey
    have s4 : Same H3 (upd H3 p0 (.lst ((itR cs).map V.str))) := same_upd np
    have s04 := s03.trans s4
    obtain ⟨xs, hx, hp⟩ := Runs.same s04 hR
    have lx : xs.length = cs.length := Paired.len hp
    have lenit : ((itR cs).length : Int) = lenR cs := by rw [← pm.length_eq]; exact ll
    refine ⟨_, rfl, a, rfl, ⟨xs, .of hx⟩, fun M nM => lc2_list (K := K) (a := a) (xs := xs) (fun i H' => Same (upd H3 p0 (.lst ((itR cs).map V.str))) H' ∧ H' M = some (.lst ((itR (cs.take i)).map V.str))) ⟨same_upd nM, upd_same⟩ (fun i H' _ p => .of (p.1 _ _ hx)) (fun i x H5 ex hP => ?_) (fun H5 hP => ?_)⟩
    · obtain ⟨s5, hM⟩ := hP
      obtain ⟨r, er, hr1⟩ := Paired.at hp ex
      obtain ⟨t, rfl, ht⟩ := RunV.same s5 hr1
      have hi : i < cs.length := (List.getElem?_eq_some_iff.mp er).1
      have okr := ok.2.1 r (List.mem_of_getElem? er)
      have mr : r.2 ≤ lenR cs := by
        have e : itR cs = itR (cs.take (i + 1)) ++ itR (cs.drop (i + 1)) := by
          rw [← it_app, List.take_append_drop]
        have e2 := congrArg List.length e
        rw [take_snoc er, it_snoc, List.length_append, List.length_append, List.length_replicate] at e2
        omega
      refine ⟨t, _, rfl, .of ht, rfl, _, _, rfl, _, _, rfl, rfl, rfl, yesT ?_⟩
      refine ⟨_, rfl, r.2, rfl, by have := okr.2.1; omega, by omega, lc2_rng (fun j H' => Same (upd H3 p0 (.lst ((itR cs).map V.str))) H' ∧ H' M = some (.lst ((itR (cs.take i) ++ List.replicate j r.1).map V.str))) ⟨s5, by rw [List.replicate_zero, List.append_nil]; exact hM⟩ (fun j H6 hj hP => ?_) (fun H6 hP => ?_)⟩
      · obtain ⟨s6, hM6⟩ := hP
        refine ⟨rfl, yesT ⟨_, rfl, _, hM6, ?_, same_grow nM s6, ?_⟩⟩
        · have h1 : (itR (cs.take i)).length ≤ (itR cs).length := by
            have e : itR cs = itR (cs.take i) ++ itR (cs.drop i) := by
              rw [← it_app, List.take_append_drop]
            rw [e, List.length_append]
            omega
          rw [List.length_map, List.length_append, List.length_replicate]
          exact small (by omega)
        · rw [upd_same, List.replicate_succ', ← List.append_assoc]
          simp only [List.map_append, List.map_cons, List.map_nil]
      · obtain ⟨s6, hM6⟩ := hP
        refine ⟨s6, ?_⟩
        rw [take_snoc er, it_snoc]
        exact hM6
    obtain ⟨s5, hM⟩ := hP
    rw [lx, List.take_length] at hM
    have gk : ∀ k ∈ itR cs, KindOk k := fun k hk => lk k (pm.mem_iff.mpr hk)
    refine ⟨.list ((itR cs).map PyData.str), .list ((itR cs).map PyData.str), .lst (.of (s5 _ _ upd_same)) (dp_strs _), .lst (.of hM) (dp_strs _), shaped_strs gk, shaped_strs gk, ?_⟩
    rw [eqv_strs]
    exact q _ (s04.trans s5)
end
end UP

set_option Elab.async false
set_option linter.all false
set_option maxRecDepth 100000
set_option maxHeartbeats 4000000
set_option pp.maxSteps 600
namespace UP
open PySem PySem.Spec PyProof.Rows L2
theorem sim_three {N : Addr → Prop} {H : Hp} {v : V} {x y z : PyData} (h : Sim N H 3 v (.list [x, y, z])) : ∃ d a b c, v = .ref d ∧ Sq2 H d [a, b, c] ∧ Sim N H 2 a x ∧ Sim N H 2 b y ∧ Sim N H 2 c z := by
  rcases h with h | ⟨d, xs, ds, rfl, _, hx, e, p, _⟩
  · exact (dsc_lst h).elim
  · cases e
    cases p with
    | cons h1 p =>
    cases p with
    | cons h2 p =>
    cases p with
    | cons h3 p =>
    cases p
    exact ⟨d, _, _, _, rfl, hx, h1, h2, h3⟩
theorem atS {K : PySem.W.Frag} {H : Hp} {t : Addr} {xs : List V} {i : Int} {x : V} {Q : VK} (h : Sq2 H t xs) (e : atI xs i = some x) (q : Q x H) : rIx K (.ref t) (.int i) H Q := h.elim (fun z => .inl ⟨t, _, i, _, rfl, rfl, .of z, e, q⟩) (fun z => .inr (.inl ⟨t, _, i, _, rfl, rfl, .of z, e, q⟩))
theorem simR_strs {H : Hp} {p l : Addr} {ks : List Str} {n : Nat} (ne : l ≠ p) (h : H l = some (.lst (ks.map V.str))) (lk : ks.length ≤ 1000) : Sim (· ≠ p) H (n + 1) (.ref l) (.list (ks.map PyData.str)) := by
  refine .inr ⟨l, _, _, rfl, ne, .inl h, rfl, ?_, by rw [List.length_map]; exact lk⟩
  have gen : ∀ ks : List Str, Paired (Sim (· ≠ p) H n) (ks.map V.str) (ks.map PyData.str) := by
    intro ks
    induction ks with
    | nil => exact .nil
    | cons k t ih => exact .cons (Sim.dsc (.inr (.inr (.inr ⟨_, rfl, rfl⟩)))) ih
  exact gen ks
theorem dsc_str {v : V} {s : Str} (h : Dsc v (.str s)) : v = .str s := by
  rcases h with ⟨_, e⟩ | ⟨_, _, e⟩ | ⟨_, _, e⟩ | ⟨_, e1, e⟩
  · cases e
  · cases e
  · cases e
  · cases e
    exact e1
theorem sim_strs {N : Addr → Prop} {H : Hp} {v : V} {ks : List Str} {n : Nat} (h : Sim N H (n + 1) v (.list (ks.map PyData.str))) : ∃ b, v = .ref b ∧ Sq2 H b (ks.map V.str) := by
  rcases h with h | ⟨b, xs, ds, rfl, _, hx, e, p, _⟩
  · exact (dsc_lst h).elim
  · cases e
    refine ⟨b, rfl, ?_⟩
    have gen : ∀ (ks : List Str) (xs : List V), Paired (Sim N H n) xs (ks.map PyData.str) → xs = ks.map V.str := by
      intro ks
      induction ks with
      | nil =>
        intro xs h
        cases h
        rfl
      | cons k t ih =>
        intro xs h
        cases h with
        | cons h1 h2 =>
          rw [ih _ h2]
          have : ∀ {x : V}, Sim N H n x (.str k) → x = .str k := fun {x} h => by
            cases n with
            | zero => exact dsc_str h
            | succ m =>
              rcases h with h | ⟨_, _, _, _, _, _, e, _⟩
              · exact dsc_str h
              · cases e
          rw [this h1]
          rfl
    rw [← gen ks xs p]
    exact hx
theorem dps_strs {K : PySem.W.Frag} {H : Hp} {b : Addr} {ks : List Str} (h : Sq2 H b (ks.map V.str)) (k : ∀ s ∈ ks, KindOk s) (l : ks.length ≤ 12) : ∃ d, DpS K H (.ref b) d ∧ Nice 108 1 d := by
  obtain ⟨d, h1, h2⟩ := dps_seq (K := K) (w := 8) (n := 0) h fun x hx => by
    obtain ⟨s, hs, e⟩ := List.mem_map.mp hx
    rw [← e]
    exact ⟨.str s, fun _ _ => .str s, nice_str (k s hs)⟩
  exact ⟨d, h1, h2.mono (by rw [List.length_map]; omega) (Nat.le_refl _)⟩
theorem prod_two : ∀ {cs : List Run}, (∀ r ∈ cs, 1 ≤ r.2) → prodM cs ≤ 2 ^ (lenR cs).toNat
  | [], _ => Nat.le_refl _
  | r :: t, h => by
    have ht : ∀ x ∈ t, 1 ≤ x.2 := fun x hx => h x (List.mem_cons_of_mem _ hx)
    have ih := prod_two ht
    have h1 := h r (List.mem_cons_self ..)
    have h2 := lenR_nn ht
    have e : (lenR (r :: t)).toNat = r.2.toNat + (lenR t).toNat := by
      rw [lenR_cons]
      omega
    rw [prodM, e, Nat.pow_add]
    exact Nat.mul_le_mul (Nat.succ_le_of_lt Nat.lt_two_pow_self) ih
theorem suf_ne : ∀ (T : Nat) {cs : List Run}, Okc cs → (lenR cs).toNat = T → sufL T cs ≠ []
  | 0, cs, ok, hT => List.cons_ne_nil _ _
  | T + 1, cs, ok, hT => by
    cases cs with
    | nil => cases hT
    | cons r u =>
      have hr : r ∈ r :: u := List.mem_cons_self ..
      have hl := less_len ok hr
      have ih := suf_ne T (less_ok ok r.1) (by omega)
      obtain ⟨l, hl2⟩ := List.exists_mem_of_ne_nil _ ih
      intro z
      have : (r.1 :: l) ∈ sufL (T + 1) (r :: u) := List.mem_flatMap.mpr ⟨r, hr, List.mem_map.mpr ⟨l, hl2, rfl⟩⟩
      rw [z] at this
      cases this
theorem stI_okX : ∀ (l : List Str) (s : Option Run), (∀ x ∈ l, KindOk x) → StOk s → StOk (stI l s)
  | [], s, _, h => h
  | x :: t, s, hx, h => stI_okX t _ (fun y hy => hx y (List.mem_cons_of_mem _ hy)) (stOk_stepC h (hx x (List.mem_cons_self ..)) (by decide))
/-- two lists of texts in one list -/
theorem nice_strs2 {l : List Str} (k : ∀ s ∈ l, KindOk s) (n : l.length ≤ 12) : Nice 300 2 (.list [.list (l.map PyData.str), .list (l.map PyData.str)]) := by
  have one : Nice 108 1 (.list (l.map PyData.str)) := by
    refine (nice_list (w := 8) (n := 0) fun d hd => ?_).mono (by rw [List.length_map]; omega) (Nat.le_refl _)
    obtain ⟨s, hs, rfl⟩ := List.mem_map.mp hd
    exact nice_str (k s hs)
  refine (nice_list (w := 108) (n := 1) (ds := [.list (l.map PyData.str), .list (l.map PyData.str)]) fun d hd => ?_).mono (by show (108 + 1) * 2 ≤ 300; decide) (Nat.le_refl _)
  rcases List.mem_cons.mp hd with e | e
  · rw [e]; exact one
  · rw [List.mem_singleton.mp e]; exact one
theorem nice_strs1 {l : List Str} (k : ∀ s ∈ l, KindOk s) (n : l.length ≤ 12) : Nice 108 1 (.list (l.map PyData.str)) := by
  refine (nice_list (w := 8) (n := 0) fun d hd => ?_).mono (by rw [List.length_map]; omega) (Nat.le_refl _)
  obtain ⟨s, hs, rfl⟩ := List.mem_map.mp hd
  exact nice_str (k s hs)
theorem nice_nat2 {i : Nat} (h : i < 10 ^ 5) : Nice 500 1 (.list [.int (i : Int), .int (i : Int)]) := by
  have one : Nice 21 0 (.int (i : Int)) := nice_smi (by omega)
  refine (nice_list (w := 21) (n := 0) (ds := [.int (i : Int), .int (i : Int)]) fun d hd => ?_).mono (by show (21 + 1) * 2 ≤ 500; decide) (Nat.le_refl _)
  rcases List.mem_cons.mp hd with e | e
  · rw [e]; exact one
  · rw [List.mem_singleton.mp e]; exact one
end UP

set_option Elab.async false
set_option linter.all false
set_option maxRecDepth 100000
set_option maxHeartbeats 4000000
set_option pp.maxSteps 600
namespace UP
open PySem PySem.Spec PyProof.Rows L2
/-! ### orders stand in the order of lists -/
def ltK (x y : Str) : Prop := x.cps.toList < y.cps.toList
def lexS : List Str → List Str → Prop
  | x :: s, y :: t => ltK x y ∨ (x = y ∧ lexS s t)
  | _, _ => False
theorem alike_strs : ∀ {a b : List Str}, a.length = b.length → PySem.W.alikeAll (a.map PyData.str) (b.map PyData.str) = true
  | [], [], _ => by simp [PySem.W.alikeAll]
  | x :: a, y :: b, l => by
    rw [List.map_cons, List.map_cons, PySem.W.alikeAll, alike_strs (Nat.succ.inj l)]
    simp [PySem.W.alike]
theorem ne_ltK {x y : Str} (h : ltK x y) : x ≠ y := fun e => by
  subst e
  exact List.lt_irrefl _ h
theorem lt_strs : ∀ {a b : List Str}, a.length = b.length → (lexS a b → PySem.W.dataLt (.list (a.map .str)) (.list (b.map .str)) = true) ∧ (lexS b a → PySem.W.dataLt (.list (a.map .str)) (.list (b.map .str)) = false)
  | [], [], _ => ⟨fun h => h.elim, fun h => h.elim⟩
  | x :: a, y :: b, l => by
    obtain ⟨i1, i2⟩ := lt_strs (a := a) (b := b) (Nat.succ.inj l)
    have al : PySem.W.alike (.str x) (.str y) = true := by simp [PySem.W.alike]
    have yes : x = y → PySem.W.dataLt (.list ((x :: a).map .str)) (.list ((y :: b).map .str)) = PySem.W.dataLt (.list (a.map .str)) (.list (b.map .str)) := fun e => by
      rw [PySem.W.dataLt_list, PySem.W.dataLt_list, List.map_cons, List.map_cons, PySem.W.dataLt_all_yes al (by subst e; simp [PyData.eqv])]
    have no : x ≠ y → PySem.W.dataLt (.list ((x :: a).map .str)) (.list ((y :: b).map .str)) = decide (x.cps.toList < y.cps.toList) := fun e => by
      rw [PySem.W.dataLt_list, List.map_cons, List.map_cons, PySem.W.dataLt_all_no al (by simp [PyData.eqv, e]), PySem.W.dataLt_str]
    constructor
    · rintro (h | ⟨h, h2⟩)
      · rw [no (ne_ltK h)]
        exact decide_eq_true h
      · rw [yes h]
        exact i1 h2
    · rintro (h | ⟨h, h2⟩)
      · rw [no (ne_ltK h).symm]
        exact decide_eq_false fun z => List.lt_irrefl _ (List.lt_trans z h)
      · rw [yes h.symm]
        exact i2 h2
def rLtD (K : PySem.W.Frag) : R2 := fun x y H Q => ∃ da db, Dp K H x da ∧ Dp K H y db ∧ PySem.W.alike da db = true ∧ da ≠ .none ∧ da.depth ≤ 64 ∧ Q (.bl (PySem.W.dataLt da db)) H
theorem op_ltD {X : Cx} (hu : X.A.units + 64 < cLine) : OpR X (compareOp .Lt) (rLtD X.K) := by
  intro pins s σ H x y v u Q I rx ry h
  obtain ⟨da, db, ha, hb, al, nn, dp, q⟩ := h
  obtain ⟨as, r1⟩ := Dp.reads I da x v ha rx
  obtain ⟨bs, r2⟩ := Dp.reads I db y u hb ry
  exact PySem.W.rcLt_alike da db _ s v u as bs r1 r2 al nn (by omega) X.prog X.w _ _ ⟨.bl _, H, I, rfl, q⟩
theorem depth_strs (l : List Str) : (PyData.list (l.map .str)).depth ≤ 64 := by
  have c : ∀ l : List Str, PyData.depthAll (l.map PyData.str) ≤ 1 := by
    intro l
    induction l with
    | nil => simp [PyData.depthAll]
    | cons x t ih => rw [List.map_cons, PyData.depthAll]; exact Nat.max_le.mpr ⟨by simp [PyData.depth], ih⟩
  rw [PyData.depth]
  have := c l
  omega
theorem alike_list {a b : List Str} (h : a.length = b.length) : PySem.W.alike (.list (a.map .str)) (.list (b.map .str)) = true := by
  rw [PySem.W.alike]
  exact alike_strs h
theorem suf_sorted : ∀ (T : Nat) {cs : List Run}, Okc cs → (sufL T cs).Pairwise lexS
  | 0, _, _ => List.pairwise_singleton ..
  | T + 1, cs, ok => by
    show (cs.flatMap fun r => (sufL T (lessR cs r.1)).map (r.1 :: ·)).Pairwise lexS
    refine List.pairwise_flatMap.mpr ⟨fun r hr => ?_, ?_⟩
    · exact List.pairwise_map.mpr ((suf_sorted T (less_ok ok r.1)).imp fun z => Or.inr ⟨rfl, z⟩)
    · refine List.pairwise_iff_getElem.mpr fun i j hi hj lt a ha b hb => ?_
      obtain ⟨a', _, rfl⟩ := List.mem_map.mp ha
      obtain ⟨b', _, rfl⟩ := List.mem_map.mp hb
      exact Or.inl (asc_lt ok.asc i j _ _ lt (List.getElem?_eq_getElem hi) (List.getElem?_eq_getElem hj))
theorem go_sorted {cs : List Run} (ok : Okc cs) (g : Option Run) : (goL cs 0 none g).Pairwise lexS := by
  unfold goL
  rw [left_zero ok]
  exact (suf_sorted _ ok).filter _
theorem go_lex {cs : List Run} (ok : Okc cs) {g : Option Run} {i j : Nat} {a b : List Str} (lt : i < j) (ha : (goL cs 0 none g)[i]? = some a) (hb : (goL cs 0 none g)[j]? = some b) : lexS a b := by
  obtain ⟨l1, e1⟩ := List.getElem?_eq_some_iff.mp ha
  obtain ⟨l2, e2⟩ := List.getElem?_eq_some_iff.mp hb
  have := List.pairwise_iff_getElem.mp (go_sorted ok g) i j l1 l2 lt
  rw [e1, e2] at this
  exact this
theorem go_mem {cs : List Run} (ok : Okc cs) {g : Option Run} {l : List Str} (h : l ∈ goL cs 0 none g) : l ∈ sufR cs ∧ stI l none = g ∧ Wd cs l := by
  unfold goL at h
  rw [left_zero ok] at h
  obtain ⟨h1, h2⟩ := List.mem_filter.mp h
  exact ⟨h1, of_decide_eq_true h2, (suf_mem _ ok rfl l).mp h1⟩
theorem go_len {cs : List Run} (ok : Okc cs) (g : Option Run) : (goL cs 0 none g).length = numE cs g := by
  unfold goL
  rw [left_zero ok, ← suf_num ok g, List.count_eq_countP, List.countP_map, List.countP_eq_length_filter]
  congr 1
  refine List.filter_congr fun l _ => ?_
  show decide (stI l none = g) = (stI l none == g)
  rw [Bool.eq_iff_iff, decide_eq_true_iff, beq_iff_eq]
theorem prodM_posR : ∀ {l : List Run}, (∀ r ∈ l, 0 ≤ r.2) → prodM (posR l) = prodM l
  | [], _ => rfl
  | r :: t, h => by
    have ih := prodM_posR (l := t) fun x hx => h x (List.mem_cons_of_mem _ hx)
    have h0 := h r (List.mem_cons_self ..)
    unfold posR at ih ⊢
    by_cases c : 0 < r.2
    · rw [List.filter_cons_of_pos (by simpa using c), prodM, prodM, ih]
    · rw [List.filter_cons_of_neg (by simpa using c), ih, prodM]
      have e : r.2.toNat = 0 := by omega
      rw [e]
      omega
theorem prodM_dec (k : Str) : ∀ cs : List Run, prodM (cs.map (decR k)) ≤ prodM cs
  | [] => Nat.le_refl _
  | r :: t => by
    refine Nat.mul_le_mul ?_ (prodM_dec k t)
    show (r.2 - ite _ _ _).toNat + 1 ≤ r.2.toNat + 1
    split <;> omega
theorem prodM_less {cs : List Run} (ok : Okc cs) (k : Str) : prodM (lessR cs k) ≤ prodM cs := by
  unfold lessR
  rw [prodM_posR (dec_nn ok k)]
  exact prodM_dec k cs
theorem less_ct {cs : List Run} (ok : CtOk cs) (k : Str) : CtOk (lessR cs k) := by
  have okc : Okc cs := ⟨fun r hr => (ok.2.1 r hr).2.1, ok.2.2⟩
  refine ⟨?_, fun r hr => ?_, (less_ok okc k).asc⟩
  · unfold lessR posR
    refine Nat.le_trans (List.length_filter_le ..) ?_
    rw [List.length_map]
    exact ok.1
  · obtain ⟨h1, h2⟩ := posR_mem.mp hr
    obtain ⟨q, hq, rfl⟩ := List.mem_map.mp h1
    have hk := ok.2.1 q hq
    refine ⟨hk.1, h2, ?_⟩
    have := hk.2.2
    show q.2 - ite _ _ _ ≤ _
    split <;> omega
theorem sum_nat : ∀ l : List Nat, (l.map fun n : Nat => (n : Int)).sum = ((l.sum : Nat) : Int)
  | [] => rfl
  | n :: t => by rw [List.map_cons, List.sum_cons, sum_nat t, List.sum_cons, Int.natCast_add]
def rGtD (K : PySem.W.Frag) : R2 := fun x y H Q => ∃ da db, Dp K H x da ∧ Dp K H y db ∧ PySem.W.alike da db = true ∧ da ≠ .none ∧ da.depth ≤ 64 ∧ Q (.bl (PySem.W.dataLt db da)) H
theorem op_gtD {X : Cx} (hu : X.A.units + 64 < cLine) : OpR X (compareOp .Gt) (rGtD X.K) := by
  intro pins s σ H x y v u Q I rx ry h
  obtain ⟨da, db, ha, hb, al, nn, dp, q⟩ := h
  obtain ⟨as, r1⟩ := Dp.reads I da x v ha rx
  obtain ⟨bs, r2⟩ := Dp.reads I db y u hb ry
  exact PySem.W.rcGt_alike da db _ s v u as bs r1 r2 al nn (by omega) X.prog X.w _ _ ⟨.bl _, H, I, rfl, q⟩
end UP

set_option Elab.async false
set_option linter.all false
set_option maxRecDepth 100000
set_option maxHeartbeats 4000000
set_option pp.maxSteps 600
namespace UP
open PySem PySem.Spec PyProof.Rows L2
theorem rg_can {cs : List Run} {k : Str} {n x y : Int} (ok : CtOk cs) (n1 : 1 ≤ n) (e : rgO cs k = some (x, y)) : CanR cs (some (k, n)) ↔ (x ≤ n ∧ n ≤ y) ∧ (n - x) % 2 = 0 := by
  have hk : ∃ r ∈ cs, r.1 = k := Classical.byContradiction fun z => by
    rw [rg_other ok fun r hr h => z ⟨r, hr, h⟩] at e
    cases e
  obtain ⟨r, hr, rfl⟩ := hk
  obtain ⟨pre, post, sp⟩ := split_of ok.2.2 hr
  rw [sp.range (fun r hr => (ok.2.1 r hr).2.1) n1]
  unfold rgO at e
  split at e
  · cases e
    have := le_par (cs := cs) (k := r.1)
    constructor
    · rintro ⟨h1, h2, h3⟩
      exact ⟨⟨h1, h2⟩, by omega⟩
    · rintro ⟨⟨h1, h2⟩, h3⟩
      exact ⟨h1, h2, by omega⟩
  · cases e
theorem rg_cannot {cs : List Run} {k : Str} {n : Int} (ok : CtOk cs) (n1 : 1 ≤ n) (e : rgO cs k = none) : ¬ CanR cs (some (k, n)) := by
  intro c
  obtain ⟨r, hr, rk⟩ := List.mem_map.mp (c.1 (k, n) rfl)
  have rk : r.1 = k := rk
  subst rk
  obtain ⟨pre, post, sp⟩ := split_of ok.2.2 hr
  rw [sp.range (fun r hr => (ok.2.1 r hr).2.1) n1] at c
  unfold rgO at e
  rw [if_pos (by omega)] at e
  cases e

/-! ### the states that can remain, as they are listed -/
def stepN (x y : Int) : Nat := ((y - x) / 2 + 1).toNat
def rgS (k : Str) : Option (Int × Int) → List (Option Run)
  | none => []
  | some (x, y) => (List.range (stepN x y)).map fun j : Nat => some (k, x + ((j : Nat) : Int) * 2)
noncomputable def posbL (cs l : List Run) : List (Option Run) := (if canB cs none = true then [none] else []) ++ l.flatMap fun r => rgS r.1 (rgO cs r.1)
noncomputable def posb (cs : List Run) : List (Option Run) := posbL cs cs
theorem okc_of {cs : List Run} (ok : CtOk cs) : Okc cs := ⟨fun r hr => (ok.2.1 r hr).2.1, ok.2.2⟩
theorem rg_le {cs : List Run} {k : Str} {x y : Int} (e : rgO cs k = some (x, y)) : 1 ≤ x ∧ x ≤ y ∧ y ≤ ownR cs k := by
  unfold rgO at e
  split at e
  · next h =>
    cases e
    refine ⟨le_pos, h, ?_⟩
    unfold moR
    split <;> omega
  · cases e
theorem mem_rg {k : Str} {x y : Int} {s : Option Run} (h : x ≤ y) : s ∈ rgS k (some (x, y)) ↔ ∃ n : Int, s = some (k, n) ∧ (x ≤ n ∧ n ≤ y) ∧ (n - x) % 2 = 0 := by
  show s ∈ (List.range (stepN x y)).map _ ↔ _
  unfold stepN
  rw [List.mem_map]
  constructor
  · rintro ⟨j, hj, rfl⟩
    have hj := List.mem_range.mp hj
    exact ⟨x + (j : Int) * 2, rfl, by omega, by omega⟩
  · rintro ⟨n, rfl, ⟨h1, h2⟩, h3⟩
    refine ⟨((n - x) / 2).toNat, List.mem_range.mpr (by omega), ?_⟩
    have : x + ((((n - x) / 2).toNat : Nat) : Int) * 2 = n := by omega
    rw [this]
theorem rg_kin {k : Str} {o : Option (Int × Int)} {s : Option Run} (h : s ∈ rgS k o) : ∃ n : Int, s = some (k, n) := by
  cases o with
  | none => cases h
  | some p =>
    obtain ⟨x, y⟩ := p
    obtain ⟨j, _, rfl⟩ := List.mem_map.mp h
    exact ⟨_, rfl⟩
theorem rg_nodup (k : Str) (o : Option (Int × Int)) : (rgS k o).Nodup := by
  cases o with
  | none => exact List.nodup_nil
  | some p =>
    obtain ⟨x, y⟩ := p
    refine List.pairwise_map.mpr (List.Pairwise.imp (fun {a b} lt e => ?_) List.pairwise_lt_range)
    simp only [Option.some.injEq, Prod.mk.injEq] at e
    omega
theorem posb_mem {cs : List Run} (ok : CtOk cs) (s : Option Run) : s ∈ posb cs ↔ s ∈ endsR cs := by
  rw [ends_can (okc_of ok)]
  unfold posb posbL
  rw [List.mem_append, List.mem_flatMap]
  constructor
  · rintro (h | ⟨r, hr, h⟩)
    · split at h
      · next c =>
        rw [List.mem_singleton.mp h]
        refine ⟨(fun r e => by cases e), ?_⟩
        exact Classical.byContradiction fun z => by rw [canB_no z] at c; cases c
      · cases h
    · cases e : rgO cs r.1 with
      | none => rw [e] at h; cases h
      | some p =>
        obtain ⟨x, y⟩ := p
        rw [e] at h
        have le := rg_le e
        obtain ⟨n, rfl, h1, h2⟩ := (mem_rg le.2.1).mp h
        exact ⟨fun r' e' => by cases e'; show 1 ≤ n; omega, (rg_can ok (by omega) e).mpr ⟨h1, h2⟩⟩
  · rintro ⟨po, c⟩
    cases s with
    | none =>
      left
      rw [if_pos (canB_yes c)]
      exact List.mem_singleton.mpr rfl
    | some r =>
      right
      obtain ⟨q, hq, e⟩ := List.mem_map.mp (c.1 r rfl)
      have e : q.1 = r.1 := e
      have r1 := po r rfl
      refine ⟨q, hq, ?_⟩
      rw [e]
      cases eo : rgO cs r.1 with
      | none => exact absurd (show CanR cs (some (r.1, r.2)) from c) (rg_cannot ok r1 eo)
      | some p =>
        obtain ⟨x, y⟩ := p
        exact (mem_rg (rg_le eo).2.1).mpr ⟨r.2, rfl, (rg_can ok r1 eo).mp c⟩
theorem posb_nodup {cs : List Run} (ok : CtOk cs) : (posb cs).Nodup := by
  unfold posb posbL
  refine List.nodup_append.mpr ⟨?_, ?_, ?_⟩
  · split
    · exact List.nodup_cons.mpr ⟨List.not_mem_nil, List.nodup_nil⟩
    · exact List.nodup_nil
  · have gen : ∀ l : List Run, l.Pairwise (fun x y => x.1.cps.toList < y.1.cps.toList) → (l.flatMap fun r => rgS r.1 (rgO cs r.1)).Nodup := by
      intro l
      induction l with
      | nil => intro _; exact List.nodup_nil
      | cons r t ih =>
        intro h
        obtain ⟨h1, h2⟩ := List.pairwise_cons.mp h
        rw [List.flatMap_cons]
        refine List.nodup_append.mpr ⟨rg_nodup _ _, ih h2, fun x hx y hy e => ?_⟩
        obtain ⟨n, rfl⟩ := rg_kin hx
        obtain ⟨q, hq, hy⟩ := List.mem_flatMap.mp hy
        obtain ⟨m, rfl⟩ := rg_kin hy
        simp only [Option.some.injEq, Prod.mk.injEq] at e
        have := h1 q hq
        rw [e.1] at this
        exact List.lt_irrefl _ this
    exact gen cs (asc_pairX.mp ok.2.2)
  · intro x hx y hy e
    split at hx
    · rw [List.mem_singleton.mp hx] at e
      obtain ⟨q, _, hy⟩ := List.mem_flatMap.mp hy
      obtain ⟨m, rfl⟩ := rg_kin hy
      cases e
    · cases hx
theorem posb_sum {cs : List Run} (ok : CtOk cs) : ((posb cs).map fun s => numE cs s).sum = mulN 0 cs := by
  rw [← ends_len (okc_of ok)]
  exact sum_count (posb_nodup ok) fun s hs => (posb_mem ok s).mpr hs
theorem ends_ne {cs : List Run} (ok : Okc cs) : endsR cs ≠ [] := by
  intro z
  have h := suf_len ok
  rw [z] at h
  exact suf_ne _ ok rfl (List.length_eq_zero_iff.mp h)
theorem posb_ne {cs : List Run} (ok : CtOk cs) : posb cs ≠ [] := by
  obtain ⟨s, hs⟩ := List.exists_mem_of_ne_nil _ (ends_ne (okc_of ok))
  intro z
  have := (posb_mem ok s).mpr hs
  rw [z] at this
  cases this
theorem posb_pos {cs : List Run} (ok : CtOk cs) {s : Option Run} (h : s ∈ posb cs) : 0 < numE cs s := List.count_pos_iff.mpr ((posb_mem ok s).mp h)
theorem posb_ok {cs : List Run} (ok : CtOk cs) {s : Option Run} (h : s ∈ posb cs) : StOk s := by
  obtain ⟨po, c⟩ := (ends_can (okc_of ok) s).mp ((posb_mem ok s).mp h)
  intro r e
  obtain ⟨q, hq, ek⟩ := List.mem_map.mp (c.1 r e)
  have ek : q.1 = r.1 := ek
  exact ⟨by rw [← ek]; exact (ok.2.1 q hq).1, po r e⟩
theorem own_mem {cs : List Run} (ok : CtOk cs) {r : Run} (h : r ∈ cs) : ownR cs r.1 = r.2 := by
  obtain ⟨pre, post, sp⟩ := split_of ok.2.2 h
  exact sp.own
theorem rgl_len {cs : List Run} (ok : CtOk cs) {r : Run} (h : r ∈ cs) (b : r.2 ≤ 1500) : (rgS r.1 (rgO cs r.1)).length ≤ 1500 := by
  cases e : rgO cs r.1 with
  | none => exact Nat.zero_le _
  | some p =>
    obtain ⟨x, y⟩ := p
    have le := rg_le e
    rw [own_mem ok h] at le
    show ((List.range (stepN x y)).map _).length ≤ 1500
    rw [List.length_map, List.length_range]
    unfold stepN
    omega
theorem posbL_len {cs : List Run} (ok : CtOk cs) (b : ∀ r ∈ cs, r.2 ≤ 1500) : ∀ l : List Run, (∀ r ∈ l, r ∈ cs) → (posbL cs l).length ≤ 1 + l.length * 1500
  | [], _ => by
    unfold posbL
    rw [List.flatMap_nil, List.append_nil]
    split <;> simp
  | r :: t, h => by
    have ih := posbL_len ok b t fun x hx => h x (List.mem_cons_of_mem _ hx)
    have h1 := rgl_len ok (h r (List.mem_cons_self ..)) (b r (h r (List.mem_cons_self ..)))
    unfold posbL at ih ⊢
    rw [List.length_append] at ih ⊢
    rw [List.flatMap_cons, List.length_append, List.length_cons, Nat.add_mul]
    omega
/-! ### one or two kinds: one state -/
theorem can_none {cs : List Run} : CanR cs none ↔ lenR cs % 2 = 0 ∧ ∀ r ∈ cs, 2 * r.2 ≤ lenR cs := by
  have e : cwR cs none = cs := by
    unfold cwR
    conv => rhs; rw [← List.map_id cs]
    exact List.map_congr_left fun r _ => Prod.ext rfl (if_neg (t := r.2 - 0) (show ¬ (V.non = V.str r.1) from fun z => by cases z))
  unfold CanR
  rw [e]
  constructor
  · rintro ⟨_, _, h3, h4⟩
    exact ⟨h3, h4⟩
  · rintro ⟨h3, h4⟩
    exact ⟨(fun _ h => by cases h), (fun _ _ h => by cases h), h3, h4⟩
theorem can_some {cs : List Run} (ok : CtOk cs) {r : Run} {n : Int} (hr : r ∈ cs) (n1 : 1 ≤ n) : CanR cs (some (r.1, n)) ↔ n ≤ r.2 ∧ (lenR cs - n) % 2 = 0 ∧ 2 * (r.2 - n) ≤ lenR cs - n ∧ ∀ q ∈ cs, q.1 ≠ r.1 → 2 * q.2 ≤ lenR cs - n := by
  obtain ⟨pre, post, sp⟩ := split_of ok.2.2 hr
  exact sp.can n1
def dfR : List Run → Option Run
  | [r] => some r
  | [r, q] => if r.2 = q.2 then none else if q.2 < r.2 then some (r.1, r.2 - q.2) else some (q.1, q.2 - r.2)
  | _ => none
theorem ends_df {cs : List Run} (ok : CtOk cs) (ne : cs ≠ []) (l2 : cs.length ≤ 2) {s : Option Run} (h : s ∈ endsR cs) : s = dfR cs := by
  obtain ⟨po, c⟩ := (ends_can (okc_of ok) s).mp h
  match cs, ne, l2 with
  | [r], _, _ =>
    have r1 := (okc_of ok).pos r (List.mem_cons_self ..)
    have el : lenR [r] = r.2 := by rw [lenR_cons, lenR_nil]; omega
    cases s with
    | none =>
      have := (can_none.mp c).2 r (List.mem_cons_self ..)
      rw [el] at this
      omega
    | some q =>
      obtain ⟨x, hx, e⟩ := List.mem_map.mp (c.1 q rfl)
      have e : x.1 = q.1 := e
      have q1 := po q rfl
      have xr : x = r := List.mem_singleton.mp hx
      subst xr
      have hc := (can_some ok (n := q.2) hx q1).mp (by rw [e]; exact c)
      rw [el] at hc
      show some q = some x
      rw [show q = x from Prod.ext e.symm (by omega)]
  | [r, t], _, _ =>
    have r1 := (okc_of ok).pos r (List.mem_cons_self ..)
    have t1 := (okc_of ok).pos t (List.mem_cons_of_mem _ (List.mem_cons_self ..))
    have el : lenR [r, t] = r.2 + t.2 := by rw [lenR_cons, lenR_cons, lenR_nil]; omega
    have nk : r.1 ≠ t.1 := asc_ne ok.2.2 (i := 0) (j := 1) (by decide) rfl rfl
    have mr : r ∈ [r, t] := List.mem_cons_self ..
    have mt : t ∈ [r, t] := List.mem_cons_of_mem _ (List.mem_cons_self ..)
    cases s with
    | none =>
      have h2 := (can_none.mp c).2
      have a1 := h2 r mr
      have a2 := h2 t mt
      rw [el] at a1 a2
      show none = if r.2 = t.2 then none else _
      rw [if_pos (by omega)]
    | some q =>
      obtain ⟨x, hx, e⟩ := List.mem_map.mp (c.1 q rfl)
      have e : x.1 = q.1 := e
      have q1 := po q rfl
      have hc := (can_some ok (n := q.2) hx q1).mp (by rw [e]; exact c)
      rw [el] at hc
      obtain ⟨h1, h2, h3, h4⟩ := hc
      show some q = if r.2 = t.2 then none else _
      rcases List.mem_cons.mp hx with ex | ex
      · subst ex
        have := h4 t mt nk.symm
        rw [if_neg (by omega), if_pos (by omega)]
        rw [show q = (x.1, x.2 - t.2) from Prod.ext e.symm (by show q.2 = x.2 - t.2; omega)]
      · have ex := List.mem_singleton.mp ex
        subst ex
        have := h4 r mr nk
        rw [if_neg (by omega), if_neg (by omega)]
        rw [show q = (x.1, x.2 - r.2) from Prod.ext e.symm (by show q.2 = x.2 - r.2; omega)]
  | _ :: _ :: _ :: _, _, l2 => simp at l2
theorem posb_one {cs : List Run} (ok : CtOk cs) (ne : cs ≠ []) (l2 : cs.length ≤ 2) : posb cs = [dfR cs] := by
  have all : ∀ s ∈ posb cs, s = dfR cs := fun s hs => ends_df ok ne l2 ((posb_mem ok s).mp hs)
  have nd := posb_nodup ok
  have nn := posb_ne ok
  match posb cs, all, nd, nn with
  | [], _, _, nn => exact absurd rfl nn
  | [x], all, _, _ => rw [all x (List.mem_cons_self ..)]
  | x :: y :: t, all, nd, _ =>
    have h1 := all x (List.mem_cons_self ..)
    have h2 := all y (List.mem_cons_of_mem _ (List.mem_cons_self ..))
    exact absurd (by rw [h1, h2]; exact List.mem_cons_self ..) (List.nodup_cons.mp nd).1
theorem num_one {cs : List Run} (ok : CtOk cs) (ne : cs ≠ []) (l2 : cs.length ≤ 2) : numE cs (dfR cs) = mulN 0 cs := by
  have h := posb_sum ok
  rw [posb_one ok ne l2] at h
  simpa using h
/-! ### kinds of one item -/
theorem facR_ones : ∀ {cs : List Run}, (∀ r ∈ cs, r.2 = 1) → facR cs = 1
  | [], _ => rfl
  | r :: t, h => by
    show fac r.2.toNat * facR t = 1
    rw [h r (List.mem_cons_self ..), facR_ones fun x hx => h x (List.mem_cons_of_mem _ hx)]
    rfl
theorem lenR_ones : ∀ {cs : List Run}, (∀ r ∈ cs, r.2 = 1) → lenR cs = (cs.length : Int)
  | [], _ => rfl
  | r :: t, h => by
    rw [lenR_cons, lenR_ones fun x hx => h x (List.mem_cons_of_mem _ hx), h r (List.mem_cons_self ..), List.length_cons]
    omega
theorem ends_ones {cs : List Run} (ok : Okc cs) (h : ∀ r ∈ cs, r.2 = 1) : (endsR cs).length = fac cs.length := by
  have h1 := ends_fac _ ok rfl
  rw [facR_ones h, Nat.mul_one, lenR_ones h] at h1
  exact h1
theorem less_ones {cs : List Run} (h : ∀ r ∈ cs, r.2 = 1) (k : Str) : ∀ r ∈ lessR cs k, r.2 = 1 := fun r hr => by
  obtain ⟨h1, h2⟩ := posR_mem.mp hr
  obtain ⟨q, hq, rfl⟩ := List.mem_map.mp h1
  have hq := h q hq
  have h2 : 0 < q.2 - if q.1 = k then 1 else 0 := h2
  show q.2 - (if q.1 = k then 1 else 0) = 1
  split
  · next c => rw [if_pos c] at h2; omega
  · omega
theorem ones_state {cs : List Run} (ok : CtOk cs) (h : ∀ r ∈ cs, r.2 = 1) {s : Option Run} (hs : s ∈ endsR cs) : (cs.length % 2 = 0 → s = none) ∧ (cs.length % 2 = 1 → ∃ r ∈ cs, s = some r) := by
  obtain ⟨po, c⟩ := (ends_can (okc_of ok) s).mp hs
  have el := lenR_ones h
  cases s with
  | none =>
    have h1 := (can_none.mp c).1
    rw [el] at h1
    exact ⟨fun _ => rfl, fun z => by omega⟩
  | some q =>
    obtain ⟨x, hx, e⟩ := List.mem_map.mp (c.1 q rfl)
    have e : x.1 = q.1 := e
    have q1 := po q rfl
    have hc := (can_some ok (n := q.2) hx q1).mp (by rw [e]; exact c)
    rw [el, h x hx] at hc
    refine ⟨fun z => by omega, fun _ => ⟨x, hx, ?_⟩⟩
    rw [show q = x from Prod.ext e.symm (by rw [h x hx]; omega)]
theorem sum_pick (f : Run → Nat) (k : Str) (c : Nat) : ∀ {l : List Run}, (∀ r ∈ l, f r = if r.1 = k then c else 0) → (∀ r ∈ l, r.1 ≠ k) → (l.map f).sum = 0
  | [], _, _ => rfl
  | r :: t, h, n => by
    rw [List.map_cons, List.sum_cons, h r (List.mem_cons_self ..), if_neg (n r (List.mem_cons_self ..)), sum_pick f k c (fun x hx => h x (List.mem_cons_of_mem _ hx)) fun x hx => n x (List.mem_cons_of_mem _ hx)]
theorem num_ones {cs : List Run} (ok : CtOk cs) (h : ∀ r ∈ cs, r.2 = 1) (odd : cs.length % 2 = 1) {q : Run} (hq : q ∈ cs) : numE cs (some q) * cs.length = mulN 0 cs := by
  have okc := okc_of ok
  obtain ⟨n, en⟩ : ∃ n, cs.length = n + 1 := ⟨cs.length - 1, by omega⟩
  have ll : ∀ r ∈ cs, (lessR cs r.1).length = n := fun r hr => by
    have h1 := less_len okc hr
    rw [lenR_ones (less_ones h r.1), lenR_ones h] at h1
    omega
  have term : ∀ r ∈ cs, pushN (lessR cs r.1) r.1 (some q) = if r.1 = q.1 then fac n else 0 := fun r hr => by
    have okl := less_ct ok r.1
    have ev : (lessR cs r.1).length % 2 = 0 := by rw [ll r hr]; omega
    have all : ∀ s ∈ endsR (lessR cs r.1), s = none := fun s hs => (ones_state okl (less_ones h r.1) hs).1 ev
    unfold pushN
    split
    · next c =>
      have e := ends_ones (less_ok okc r.1) (less_ones h r.1)
      rw [ll r hr] at e
      rw [← e]
      refine List.countP_eq_length.mpr fun s hs => decide_eq_true ?_
      rw [all s hs]
      show some (r.1, (1 : Int)) = some q
      rw [show q = (r.1, 1) from Prod.ext c.symm (h q hq)]
    · next c =>
      refine List.countP_eq_zero.mpr fun s hs z => c ?_
      have z := of_decide_eq_true z
      rw [all s hs] at z
      have z : some (r.1, (1 : Int)) = some q := z
      rw [← Option.some.inj z]
  have ne : cs ≠ [] := fun z => by rw [z] at hq; cases hq
  have e1 : numE cs (some q) = fac n := by
    rw [num_step okc ne]
    obtain ⟨pre, post, sp⟩ := split_of ok.2.2 hq
    have ecs : cs = pre ++ (q.1, q.2) :: post := sp.eq
    have mp : ∀ r ∈ pre, r ∈ cs := fun r hr => by rw [ecs]; exact List.mem_append_left _ hr
    have mq : ∀ r ∈ post, r ∈ cs := fun r hr => by rw [ecs]; exact List.mem_append_right _ (List.mem_cons_of_mem _ hr)
    have s1 := sum_pick (fun r => pushN (lessR cs r.1) r.1 (some q)) q.1 (fac n) (l := pre) (fun r hr => term r (mp r hr)) sp.pre
    have s2 := sum_pick (fun r => pushN (lessR cs r.1) r.1 (some q)) q.1 (fac n) (l := post) (fun r hr => term r (mq r hr)) sp.post
    have s3 : pushN (lessR cs q.1) q.1 (some q) = fac n := by rw [term q hq, if_pos rfl]
    have gen : ∀ l : List Run, l = pre ++ (q.1, q.2) :: post → (l.map fun r => pushN (lessR cs r.1) r.1 (some q)).sum = fac n := by
      rintro l rfl
      rw [List.map_append, List.sum_append, List.map_cons, List.sum_cons, s1, s2]
      show 0 + (pushN (lessR cs q.1) q.1 (some q) + 0) = _
      rw [s3]
      omega
    exact gen cs ecs
  rw [e1, ← ends_len okc, ends_ones okc h, en]
  show fac n * (n + 1) = (n + 1) * fac n
  exact Nat.mul_comm ..
theorem posb_ones {cs : List Run} (ok : CtOk cs) (h : ∀ r ∈ cs, r.2 = 1) (odd : cs.length % 2 = 1) {s : Option Run} (hs : s ∈ posb cs) : numE cs s * cs.length = mulN 0 cs := by
  obtain ⟨r, hr, rfl⟩ := (ones_state ok h ((posb_mem ok s).mp hs)).2 odd
  exact num_ones ok h odd hr
end UP

set_option Elab.async false
set_option linter.all false
set_option maxRecDepth 100000
set_option maxHeartbeats 4000000
set_option pp.maxSteps 600
namespace UP
open PySem PySem.Spec PyProof.Rows L2
/-! ### one item earlier -/
def startsR (cs : List Run) (g : Option Run) (k : Str) : List (Option Run) := match g with
  | none => (cs.filter fun x => decide (x.1 ≠ k)).map fun x => some (x.1, (1 : Int))
  | some r => [if r.1 = k then withR k (r.2 - 1) else some (r.1, r.2 + 1)]
theorem starts_nodup {cs : List Run} (asc : Asc cs) (g : Option Run) (k : Str) : (startsR cs g k).Nodup := by
  cases g with
  | none =>
    have h := (asc_pairX.mp asc).filter (fun x : Run => decide (x.1 ≠ k))
    refine List.pairwise_map.mpr (List.Pairwise.imp (fun {a b} lt e => ?_) h)
    have e : a.1 = b.1 := by
      have := Option.some.inj e
      exact (Prod.mk.inj this).1
    rw [e] at lt
    exact List.lt_irrefl _ lt
  | some r => exact List.nodup_cons.mpr ⟨List.not_mem_nil, List.nodup_nil⟩
theorem step_eq {x g : Option Run} {k : Str} (px : PosO x) (pg : PosO g) : stepR x k 1 = g ↔ match g with
    | none => ∃ q : Str, q ≠ k ∧ x = some (q, 1)
    | some r => x = if r.1 = k then withR k (r.2 - 1) else some (r.1, r.2 + 1) := by
  cases x with
  | none =>
    show some (k, (1 : Int)) = g ↔ _
    cases g with
    | none => exact ⟨(fun h => by cases h), (fun ⟨q, _, h⟩ => by cases h)⟩
    | some r =>
      obtain ⟨rk, rn⟩ := r
      have r1 : 1 ≤ rn := pg _ rfl
      show some (k, (1 : Int)) = some (rk, rn) ↔ none = if rk = k then withR k (rn - 1) else some (rk, rn + 1)
      by_cases c : rk = k
      · subst c
        rw [if_pos rfl]
        unfold withR
        constructor
        · intro h
          have h := (Prod.mk.inj (Option.some.inj h)).2
          rw [if_pos (by omega)]
        · intro h
          split at h
          · rw [show rn = 1 by omega]
          · cases h
      · rw [if_neg c]
        exact ⟨(fun h => absurd (Prod.mk.inj (Option.some.inj h)).1.symm c), (fun h => by cases h)⟩
  | some q =>
    obtain ⟨qk, qn⟩ := q
    have q1 : 1 ≤ qn := px _ rfl
    show (if qk = k then some (k, qn + 1) else if 0 < qn - 1 then some (qk, qn - 1) else if qn - 1 = 0 then none else some (k, -(qn - 1))) = g ↔ _
    cases g with
    | none =>
      constructor
      · intro h
        split at h
        · cases h
        · next c =>
          refine ⟨qk, c, ?_⟩
          split at h
          · cases h
          · rw [show qn = 1 by omega]
      · rintro ⟨q, c, e⟩
        have e := Prod.mk.inj (Option.some.inj e)
        rw [if_neg (by rw [e.1]; exact c), if_neg (by omega), if_pos (by omega)]
    | some r =>
      obtain ⟨rk, rn⟩ := r
      have r1 : 1 ≤ rn := pg _ rfl
      show _ = some (rk, rn) ↔ some (qk, qn) = if rk = k then withR k (rn - 1) else some (rk, rn + 1)
      unfold withR
      by_cases c : rk = k
      · rw [if_pos c]
        by_cases d : qk = k
        · rw [if_pos d, c, d]
          constructor
          · intro h
            have h := (Prod.mk.inj (Option.some.inj h)).2
            rw [if_neg (by omega), show rn - 1 = qn by omega]
          · intro h
            split at h
            · cases h
            · have h := (Prod.mk.inj (Option.some.inj h)).2
              rw [show qn + 1 = rn by omega]
        · rw [if_neg d]
          constructor
          · intro h
            split at h
            · exact absurd ((Prod.mk.inj (Option.some.inj h)).1.trans c) d
            · split at h
              · cases h
              · omega
          · intro h
            split at h
            · cases h
            · exact absurd (Prod.mk.inj (Option.some.inj h)).1 d
      · rw [if_neg c]
        by_cases d : qk = k
        · rw [if_pos d]
          constructor
          · intro h
            exact absurd (Prod.mk.inj (Option.some.inj h)).1.symm c
          · intro h
            exact absurd ((Prod.mk.inj (Option.some.inj h)).1.symm.trans d) c
        · rw [if_neg d]
          constructor
          · intro h
            split at h
            · have h := Prod.mk.inj (Option.some.inj h)
              rw [h.1, show qn = rn + 1 by omega]
            · split at h
              · cases h
              · omega
          · intro h
            have h := Prod.mk.inj (Option.some.inj h)
            rw [if_pos (by omega), h.1, show qn - 1 = rn by omega]
theorem starts_pos {cs : List Run} {g : Option Run} {k : Str} (pg : PosO g) {s : Option Run} (h : s ∈ startsR cs g k) : PosO s := by
  cases g with
  | none =>
    obtain ⟨x, _, rfl⟩ := List.mem_map.mp h
    exact fun r e => by cases e; exact Int.le_refl 1
  | some r =>
    have r1 := pg r rfl
    have e : s = if r.1 = k then withR k (r.2 - 1) else some (r.1, r.2 + 1) := List.mem_singleton.mp h
    rw [e]
    intro q hq
    split at hq
    · unfold withR at hq
      split at hq
      · cases hq
      · cases hq
        show 1 ≤ r.2 - 1
        omega
    · cases hq
      show 1 ≤ r.2 + 1
      omega
theorem starts_ok {cs : List Run} (ok : CtOk cs) {g : Option Run} {k : Str} (so : StOk g) (kk : KindOk k) {s : Option Run} (h : s ∈ startsR cs g k) : StOk s := fun q e => by
  refine ⟨?_, starts_pos (fun r h => (so r h).2) h q e⟩
  subst e
  cases g with
  | none =>
    obtain ⟨x, hx, e⟩ := List.mem_map.mp h
    cases e
    exact (ok.2.1 x (List.mem_filter.mp hx).1).1
  | some r =>
    have e : some q = if r.1 = k then withR k (r.2 - 1) else some (r.1, r.2 + 1) := List.mem_singleton.mp h
    split at e
    · unfold withR at e
      split at e
      · cases e
      · cases e
        exact kk
    · cases e
      exact (so r rfl).1
theorem starts_sum {cs : List Run} (ok : CtOk cs) {g : Option Run} {k : Str} (pg : PosO g) : ((startsR cs g k).map fun s => numE (lessR cs k) s).sum = pushN (lessR cs k) k g := by
  have okl := less_ok (okc_of ok) k
  refine sum_some (starts_nodup ok.2.2 g k) (fun x hx hp => ?_) fun x hx => decide_eq_true ?_
  · have px : PosO x := ((ends_can okl x).mp hx).1
    have h := (step_eq px pg).mp (of_decide_eq_true hp)
    cases g with
    | none =>
      obtain ⟨q, hq, rfl⟩ := h
      obtain ⟨y, hy, e⟩ := List.mem_map.mp (less_kin (ends_kind okl hx))
      have e : y.1 = q := e
      refine List.mem_map.mpr ⟨y, List.mem_filter.mpr ⟨hy, decide_eq_true (by rw [e]; exact hq)⟩, by rw [e]⟩
    | some r => exact List.mem_singleton.mpr h
  · have px := starts_pos pg hx
    refine (step_eq px pg).mpr ?_
    cases g with
    | none =>
      obtain ⟨y, hy, rfl⟩ := List.mem_map.mp hx
      exact ⟨y.1, of_decide_eq_true (List.mem_filter.mp hy).2, rfl⟩
    | some r => exact List.mem_singleton.mp hx
/-! ### one item among many of another kind -/
abbrev sA : Str := "a"
abbrev sB : Str := "b"
def abR (n : Nat) : List Run := posR [(sA, (n : Int)), (sB, 1)]
def abL (n i : Nat) : List Str := List.replicate (n - i) sA ++ sB :: List.replicate i sA
theorem ab_zero : abR 0 = ([(sB, 1)] : List Run) := by decide +kernel
theorem ab_succ (n : Nat) : abR (n + 1) = ([(sA, ((n + 1 : Nat) : Int)), (sB, 1)] : List Run) := by
  unfold abR posR
  rw [List.filter_cons_of_pos (by simp), List.filter_cons_of_pos (by decide)]
  rfl
theorem a_less (n : Nat) : lessR [(sA, ((n + 1 : Nat) : Int))] sA = posR [(sA, (n : Int))] := by
  unfold lessR
  rw [List.map_cons, List.map_nil]
  unfold decR
  rw [if_pos rfl, show ((n + 1 : Nat) : Int) - 1 = (n : Int) by omega]
theorem a_pos (n : Nat) : posR [(sA, ((n + 1 : Nat) : Int))] = ([(sA, ((n + 1 : Nat) : Int))] : List Run) := by
  unfold posR
  rw [List.filter_cons_of_pos (by simp)]
  rfl
theorem suf_a : ∀ n : Nat, sufL n (posR [(sA, (n : Int))]) = [List.replicate n sA]
  | 0 => rfl
  | n + 1 => by
    rw [a_pos]
    show ([(sA, ((n + 1 : Nat) : Int))] : List Run).flatMap _ = _
    rw [List.flatMap_cons, List.flatMap_nil, List.append_nil]
    show (sufL n (lessR [(sA, ((n + 1 : Nat) : Int))] sA)).map _ = _
    rw [a_less, suf_a n]
    rfl
theorem ab_less_a (n : Nat) : lessR (abR (n + 1)) sA = abR n := by
  rw [ab_succ]
  unfold lessR abR
  rw [List.map_cons, List.map_cons, List.map_nil]
  unfold decR
  rw [if_pos rfl, if_neg (by decide +kernel), show ((n + 1 : Nat) : Int) - 1 = (n : Int) by omega]
  rfl
theorem ab_ne : sA ≠ sB := by decide +kernel
theorem ab_less_b (n : Nat) : lessR (abR (n + 1)) sB = posR [(sA, ((n + 1 : Nat) : Int))] := by
  rw [ab_succ, a_pos]
  have e : ([(sA, ((n + 1 : Nat) : Int)), (sB, 1)] : List Run).map (decR sB) = [(sA, ((n + 1 : Nat) : Int)), (sB, 0)] := by
    show [(sA, ((n + 1 : Nat) : Int) - if sA = sB then 1 else 0), (sB, (1 : Int) - if sB = sB then 1 else 0)] = _
    rw [if_neg ab_ne, if_pos rfl, Int.sub_zero]
    rfl
  unfold lessR
  rw [e]
  unfold posR
  rw [List.filter_cons_of_pos (by simp), List.filter_cons_of_neg (by simp)]
  rfl
theorem suf_ab : ∀ n : Nat, sufL (n + 1) (abR n) = (List.range (n + 1)).map (abL n)
  | 0 => by
    rw [ab_zero]
    decide +kernel
  | n + 1 => by
    have h1 := suf_ab n
    have h2 := suf_a (n + 1)
    have e : sufL (n + 1 + 1) (abR (n + 1)) = (sufL (n + 1) (lessR (abR (n + 1)) sA)).map (sA :: ·) ++ (sufL (n + 1) (lessR (abR (n + 1)) sB)).map (sB :: ·) := by
      show (abR (n + 1)).flatMap (fun r => (sufL (n + 1) (lessR (abR (n + 1)) r.1)).map (r.1 :: ·)) = _
      conv => lhs; arg 2; rw [ab_succ]
      rw [List.flatMap_cons, List.flatMap_cons, List.flatMap_nil, List.append_nil]
    rw [e, ab_less_a, ab_less_b, h1, h2, List.range_succ (n := n + 1), List.map_append, List.map_map]
    congr 1
    · refine List.map_congr_left fun i hi => ?_
      have hi := List.mem_range.mp hi
      show sA :: (List.replicate (n - i) sA ++ sB :: List.replicate i sA) = List.replicate (n + 1 - i) sA ++ sB :: List.replicate i sA
      rw [show n + 1 - i = (n - i) + 1 by omega]
      rfl
    · show [sB :: List.replicate (n + 1) sA] = [List.replicate (n + 1 - (n + 1)) sA ++ sB :: List.replicate (n + 1) sA]
      rw [Nat.sub_self]
      rfl
def lng : List Run := [(sA, 1499), (sB, 1)]
def lngG : Option Run := some (sA, 1498)
theorem lng_ab : lng = abR 1499 := by rw [ab_succ]; rfl
theorem lng_ok : CtOk lng := by
  refine ⟨by decide, fun r hr => ?_, fun i x y hx hy => ?_⟩
  · rcases List.mem_cons.mp hr with e | e
    · rw [e]
      exact ⟨by decide +kernel, by decide, by decide⟩
    · rw [List.mem_singleton.mp e]
      exact ⟨by decide +kernel, by decide, by decide⟩
  · cases i with
    | zero =>
      cases hx
      cases hy
      decide +kernel
    | succ i =>
      cases i with
      | zero => cases hy
      | succ i => cases hy
theorem lng_len : lenR lng = 1500 := by decide +kernel
theorem lng_df : dfR lng = lngG := by decide +kernel
theorem lng_go : goL lng 0 none lngG = (List.range 1500).map (abL 1499) := by
  have okc := okc_of lng_ok
  have e : sufR lng = (List.range 1500).map (abL 1499) := by
    unfold sufR
    rw [lng_len, lng_ab]
    exact suf_ab 1499
  unfold goL
  rw [left_zero okc, ← e]
  refine List.filter_eq_self.mpr fun l hl => decide_eq_true ?_
  have : stI l none ∈ endsR lng := (ends_suf okc).mem_iff.mp (List.mem_map.mpr ⟨l, hl, rfl⟩)
  rw [ends_df lng_ok (by decide) (by decide) this, lng_df]
theorem lng_num : numE lng lngG = 1500 := by
  rw [← go_len (okc_of lng_ok), lng_go, List.length_map, List.length_range]
theorem lng_best {s : Option Run} {n : Nat} (b : BestE lng s n) : s = lngG ∧ n = 1500 := by
  have h : s ∈ endsR lng := List.count_pos_iff.mp (by show 0 < numE lng s; rw [b.num]; exact b.pos)
  have e := ends_df lng_ok (by decide) (by decide) h
  rw [lng_df] at e
  refine ⟨e, ?_⟩
  rw [← b.num, e, lng_num]
theorem lng_prod : prodM lng = 3000 := by decide +kernel
/-! ### how great the numbers are -/
theorem fac_le : ∀ {n : Nat}, n ≤ 400 → fac n ≤ 512 ^ n
  | 0, _ => Nat.le_refl _
  | n + 1, h => by
    have ih := fac_le (n := n) (by omega)
    show (n + 1) * fac n ≤ 512 ^ n * 512
    rw [Nat.mul_comm]
    exact Nat.mul_le_mul ih (by omega)
theorem num_bd {cs : List Run} (ok : Okc cs) (l : lenR cs ≤ 400) (s : Option Run) : numE cs s < 2 ^ 3601 := by
  have h1 : numE cs s ≤ (endsR cs).length := List.count_le_length ..
  have h2 := ends_fac _ ok rfl
  have h4 : (endsR cs).length ≤ (endsR cs).length * facR cs := Nat.le_mul_of_pos_right _ (facR_pos cs)
  have h5 : fac (lenR cs).toNat ≤ 512 ^ (lenR cs).toNat := fac_le (by omega)
  have h6 : (512 : Nat) ^ (lenR cs).toNat ≤ 512 ^ 400 := Nat.pow_le_pow_right (by decide) (by omega)
  have h7 : (512 : Nat) ^ 400 = 2 ^ (9 * 400) := by rw [Nat.pow_mul]
  have h8 : (2 : Nat) ^ (9 * 400) < 2 ^ 3601 := Nat.pow_lt_pow_right (by decide) (by decide)
  omega
end UP

set_option Elab.async false
set_option linter.all false
set_option maxRecDepth 100000
set_option maxHeartbeats 4000000
set_option pp.maxSteps 900
namespace UP
open PySem PySem.Spec PyProof.Rows L2
/-! ### large counts -/
structure BigOk (cs : List Run) : Prop where
  ok : CtOk cs
  few : prodM cs ≤ 3000
  ne : cs ≠ []
  len : lenR cs ≤ 400
  kds : cs.length ≤ 3 ∨ (cs.length = 11 ∧ ∀ r ∈ cs, r.2 = 1)
theorem prod_bd {b : Nat} : ∀ {cs : List Run}, (∀ r ∈ cs, r.2 ≤ (b : Int)) → prodM cs ≤ (b + 1) ^ cs.length
  | [], _ => Nat.le_refl _
  | r :: t, h => by
    have h1 := h r (List.mem_cons_self ..)
    have ih := prod_bd (cs := t) fun x hx => h x (List.mem_cons_of_mem _ hx)
    show (r.2.toNat + 1) * prodM t ≤ (b + 1) ^ (t.length + 1)
    rw [Nat.pow_succ, Nat.mul_comm]
    exact Nat.mul_le_mul ih (by omega)
theorem len_bd {b : Nat} : ∀ {cs : List Run}, (∀ r ∈ cs, r.2 ≤ (b : Int)) → lenR cs ≤ ((cs.length * b : Nat) : Int)
  | [], _ => Int.natCast_nonneg _
  | r :: t, h => by
    have h1 := h r (List.mem_cons_self ..)
    have ih := len_bd (cs := t) fun x hx => h x (List.mem_cons_of_mem _ hx)
    rw [lenR_cons, List.length_cons, Nat.add_mul]
    omega
theorem ct_of {ks : List Str} {cs : List Run} {b : Nat} (l1 : ks.length ≤ 12) (okk : ∀ s ∈ ks, KindOk s) (nd : ks.Nodup ∧ sortedS ks = true ∧ ("other" : Str) ∉ ks) (ek : cs.map (·.1) = ks) (okc : ∀ r ∈ cs, 1 ≤ r.2 ∧ r.2 ≤ (b : Int)) (bb : b ≤ 1000) : CtOk cs := by
  have asc := asc_of (ks := ks) l1 okk ⟨nd.1, nd.2.1⟩
  have lc := congrArg List.length ek
  rw [List.length_map] at lc
  have mem : ∀ r ∈ cs, r.1 ∈ ks := fun r hr => by
    rw [← ek]
    exact List.mem_map.mpr ⟨r, hr, rfl⟩
  refine ⟨by omega, fun r hr => ⟨okk _ (mem r hr), (okc r hr).1, by have := (okc r hr).2; omega⟩, fun i x y hx hy => ?_⟩
  refine asc i x.1 y.1 ?_ ?_
  · rw [← ek, List.getElem?_map, hx]
    rfl
  · rw [← ek, List.getElem?_map, hy]
    rfl
def bigC : List Run := [("a", 9), ("b", 9), ("c", 28)]
theorem bigC_ok : BigOk bigC := by
  refine ⟨⟨by decide, fun r hr => ?_, fun i x y hx hy => ?_⟩, by decide +kernel, (fun e => by cases e), by decide +kernel, .inl (by decide)⟩
  · rcases List.mem_cons.mp hr with e | e
    · rw [e]
      exact ⟨by decide +kernel, by decide, by decide⟩
    · rcases List.mem_cons.mp e with e | e
      · rw [e]
        exact ⟨by decide +kernel, by decide, by decide⟩
      · rw [List.mem_singleton.mp e]
        exact ⟨by decide +kernel, by decide, by decide⟩
  · match i, hx, hy with
    | 0, hx, hy => cases hx; cases hy; decide +kernel
    | 1, hx, hy => cases hx; cases hy; decide +kernel
    | 2, hx, hy => cases hy
    | i + 3, hx, hy => cases hx
section
variable {P : Program} {w : World} {K : PySem.W.Frag} {mg : Str → Option Value} {base : Heap}
/-! _law_large: slots 0:reel 1:way 2:kind -/
abbrev s_law_large : Stmt := topS 63
theorem sc_law_large : FnScope ["reel", "way", "kind"] ["reel"] (defScope s_law_large) := ⟨rfl, rfl, rfl, by decide +kernel, rfl, by decide +kernel, by decide +kernel⟩
def sp_law_large : Sp := fun vs H Q _ => ∃ (p : Addr), vs = [.ref p] ∧ Reel H p ∧ ∀ (H' : Hp) (L : Addr) (cs : List Run), RB p H H' → Reel H' p → H L = none → Runs H' L cs → BigOk cs → Q (.ref L) H'
theorem ok_law_large (D : Df K mg "_law_large" s_law_large) (T : Tx mg) (G_law_draw : Has P w K mg base 1 "_law_draw" ["reel", "many"] sp_law_draw) (G_law_names : Has P w K mg base 2 "_law_names" ["reel", "many"] sp_law_names) : Has P w K mg base 3 "_law_large" ["reel"] sp_law_large := by
  refine has_of D sc_law_large (fun _ _ _ _ _ _ us hl => match us, hl with | [_], _ => rfl) (fun vs H Q E h => ?_) (fun f cdv A outer s H vs Q E hr h => ?_)
  · obtain ⟨_, rfl, _⟩ := h
    rfl
  · obtain ⟨p, rfl, z, q⟩ := h
    refine ⟨_, (pss_cons (ps_set (i := 1) sc_law_large.nd rfl (by first | exact Or.inl rfl | exact Or.inr rfl) (pe_callH G_law_draw (hr.mono (by omega)) (by rfl) (pa_cons (pv 0) (pa_cons pe_int pa_nil))))
    (pss_cons (ps_if (pt_cmpR op_eq (pv 1) pe_int (nomark _)) (pss_one (ps_ret (pe_lst (pa_cons (pe_tup (pa_cons (pe_ix ix_list (pe_callH G_law_names (hr.mono (by omega)) (by rfl) (pa_cons (pv 0) (pa_cons pe_int pa_nil))) pe_int (fun _ _ => rfl)) (pa_cons (pe_op op_add pe_int (pe_callH G_law_draw (hr.mono (by omega)) (by rfl) (pa_cons (pv 0) (pa_cons pe_int pa_nil)))) pa_nil))) pa_nil)))) pss_nil)
    (pss_cons (ps_if (pt_cmpR op_eq (pv 1) pe_int (nomark _)) (pss_one (ps_ret (pe_lc (own := [("kind", 2)]) rfl sc_law_large.nd (pi_list (pe_callH G_law_names (hr.mono (by omega)) (by rfl) (pa_cons (pv 0) (pa_cons pe_int pa_nil)))) (blkOk_by (N := ["reel", "way", "kind"]) (sc := defScope s_law_large) (by decide +kernel)) (fun _ _ _ _ _ => (pg_name (i := 2) sc_law_large.nd rfl (by first | exact Or.inl rfl | exact Or.inr rfl))) (fun _ _ _ _ _ => pts_nil) (fun _ _ _ _ _ => (pe_tup (pa_cons (pv 2) (pa_cons (pe_op op_add pe_int (pe_callH G_law_draw (hr.mono (by omega)) (by rfl) (pa_cons (pv 0) (pa_cons pe_int pa_nil)))) pa_nil))))))) pss_nil)
    (pss_cons (ps_if (pt_cmpR op_eq (pv 1) pe_int (nomark _)) (pss_one (ps_ret (pe_lc (own := [("kind", 2)]) rfl sc_law_large.nd (pi_list (pe_callH G_law_names (hr.mono (by omega)) (by rfl) (pa_cons (pv 0) (pa_cons pe_int pa_nil)))) (blkOk_by (N := ["reel", "way", "kind"]) (sc := defScope s_law_large) (by decide +kernel)) (fun _ _ _ _ _ => (pg_name (i := 2) sc_law_large.nd rfl (by first | exact Or.inl rfl | exact Or.inr rfl))) (fun _ _ _ _ _ => pts_nil) (fun _ _ _ _ _ => (pe_tup (pa_cons (pv 2) (pa_cons (pe_op op_add pe_int (pe_callH G_law_draw (hr.mono (by omega)) (by rfl) (pa_cons (pv 0) (pa_cons pe_int pa_nil)))) pa_nil))))))) pss_nil)
    (pss_one (ps_ret (pe_ifExp (pt_cmpR op_eq (pv 1) pe_int (nomark _)) (pe_lc (own := [("kind", 2)]) rfl sc_law_large.nd (pi_list (pe_callH G_law_names (hr.mono (by omega)) (by rfl) (pa_cons (pv 0) (pa_cons pe_int pa_nil)))) (blkOk_by (N := ["reel", "way", "kind"]) (sc := defScope s_law_large) (by decide +kernel)) (fun _ _ _ _ _ => (pg_name (i := 2) sc_law_large.nd rfl (by first | exact Or.inl rfl | exact Or.inr rfl))) (fun _ _ _ _ _ => pts_nil) (fun _ _ _ _ _ => (pe_tup (pa_cons (pv 2) (pa_cons pe_int pa_nil))))) (pe_lst (pa_cons (pe_tup (pa_cons pe_str (pa_cons pe_int pa_nil))) (pa_cons (pe_tup (pa_cons pe_str (pa_cons pe_int pa_nil))) (pa_cons (pe_tup (pa_cons pe_str (pa_cons pe_int pa_nil))) pa_nil))))))))))), ?_⟩
    refine ⟨_, rfl, p, 5, rfl, z, by decide, wide8 (by decide) (by decide), fun H1 r b1 z1 r0 r1 => ?_⟩
    refine ⟨_, rfl, rfl, _, rfl, ite2 (fun c => ?_) (fun c => ?_)⟩
    · refine ⟨_, rfl, p, 1, rfl, z1, by decide, by decide, fun H2 l ks b2 z2 nl hl ol lk okk nd => ?_⟩
      obtain ⟨k, rfl⟩ : ∃ k, ks = [k] := match ks, lk with
        | [k], _ => ⟨k, rfl⟩
      refine ⟨l, _, 0, _, rfl, rfl, .of hl, (by rfl), _, rfl, p, 380, rfl, z2, by decide, wide8 (by decide) (by decide), fun H3 r3 b3 z3 r30 r31 => ⟨_, _, rfl, rfl, (by show 2 ≤ sizeLine; decide), fun n nn => ⟨(by show 1 ≤ sizeLine; decide), fun L nL => ?_⟩⟩⟩
      have r31 : r3 < 380 := r31
      have B3 := b1.trans (b2.trans b3)
      have sn := same_upd (o := .tup [.str k, .int (1 + r3)]) nn
      have sL := same_upd (o := .lst [.ref n]) nL
      have okc : ∀ r ∈ [(k, 1 + r3)], 1 ≤ r.2 ∧ r.2 ≤ ((380 : Nat) : Int) := fun r hr => by
        rw [List.mem_singleton.mp hr]
        show 1 ≤ 1 + r3 ∧ 1 + r3 ≤ ((380 : Nat) : Int)
        omega
      have pb := prod_bd (b := 380) fun r hr => (okc r hr).2
      have lb := len_bd (b := 380) fun r hr => (okc r hr).2
      have ss := sn.trans sL
      refine q _ L [(k, 1 + r3)] (B3.trans (RB.of ss)) (z3.same ss) (B3.free z3 (sn.free nL)) ⟨_, upd_same, .cons ⟨n, rfl, sL _ _ upd_same⟩ .nil⟩ ⟨ct_of (ks := [k]) (show 1 ≤ 12 from by decide) okk nd rfl okc (by decide), Nat.le_trans pb (show (380 + 1) ^ 1 ≤ 3000 from by decide), (fun e => by cases e), Int.le_trans lb (show ((1 * 380 : Nat) : Int) ≤ 400 from by decide), .inl (show 1 ≤ 3 from by decide)⟩
    refine ⟨_, rfl, rfl, _, rfl, ite2 (fun c => ?_) (fun c => ?_)⟩
    · refine ⟨_, rfl, p, 2, rfl, z1, by decide, by decide, fun H2 l ks b2 z2 nl hl ol lk okk nd => ?_⟩
      have lk : ks.length = 2 := by omega
      refine ⟨l, rfl, ⟨_, .of hl⟩, fun L nL => ?_⟩
      have nLp := z2.ne nL
      have sL := same_upd (o := .lst []) nL
      have free1 : H2 L = none → H L = none := fun h => (b1.trans b2).free z2 h
      have B2 : RB p H (upd H2 L (.lst [])) := (b1.trans b2).trans (RB.of sL)
      refine lc_list (K := K) (a := l) (xs := ks.map V.str) (fun i H' => RB p H H' ∧ Reel H' p ∧ Off H' p L ∧ H' l = some (.lst (ks.map V.str)) ∧ ∃ cs, Runs H' L cs ∧ cs.map (·.1) = ks.take i ∧ ∀ r ∈ cs, 1 ≤ r.2 ∧ r.2 ≤ ((53 : Nat) : Int)) ⟨B2, z2.same sL, (z2.off nL).upd nLp, sL _ _ hl, [], ⟨[], upd_same, .nil⟩, rfl, (fun r h => by cases h)⟩ (fun i H' _ hP => .of hP.2.2.2.1) (fun i x H4 ex hP => ?_) (fun H4 hP => ?_)
      · obtain ⟨b4, z4, o4, hl4, cs, ⟨xs, hx, hp⟩, ek, okc⟩ := hP
        obtain ⟨k, e1, rfl⟩ := str_at ex
        have hi : i < ks.length := (List.getElem?_eq_some_iff.mp e1).1
        have lx : xs.length = cs.length := Paired.len hp
        have lc := congrArg List.length ek
        rw [List.length_map, List.length_take] at lc
        have nlL : l ≠ L := fun e => by
          rw [e, nL] at hl
          cases hl
        refine ⟨rfl, yesT ⟨_, rfl, _, rfl, p, 53, rfl, z4, by decide, wide8 (by decide) (by decide), fun H5 r5 b5 z5 r50 r51 => ⟨_, _, rfl, rfl, (by show 2 ≤ sizeLine; decide), fun n nn => ?_⟩⟩⟩
        have r51 : r5 < 53 := r51
        have hx5 := b5.but _ _ nLp hx
        have hp5 : Paired (RunV H5) xs cs := Paired.imp (fun _ _ h => b5.run z4 h) hp
        have o5 := b5.off _ _ hx o4
        have hl5 := b5.strs z4 hl4
        have b45 := b4.trans b5
        have sn := same_upd (o := .tup [.str k, .int (1 + r5)]) nn
        refine ⟨_, sn _ _ hx5, small (by omega), ?_⟩
        refine ⟨(b45.trans (RB.of sn)).grow (free1 nL) (o5.same sn), (z5.same sn).upd (o5.same sn), (o5.same sn).upd nLp, ?_, cs ++ [(k, 1 + r5)], ⟨_, upd_same, Paired.app (prs_grow (sn _ _ hx5) (prs_same sn hp5)) (.cons (RunV.grow (sn _ _ hx5) ⟨n, rfl, upd_same⟩) .nil)⟩, ?_, ?_⟩
        · rw [upd_ne nlL]
          exact sn _ _ hl5
        · rw [List.map_append, ek, take_snoc e1]
          rfl
        · intro r hr
          rcases List.mem_append.mp hr with h | h
          · exact okc r h
          · rw [List.mem_singleton.mp h]
            show 1 ≤ 1 + r5 ∧ 1 + r5 ≤ ((53 : Nat) : Int)
            omega
      · obtain ⟨b4, z4, o4, hl4, cs, hR, ek, okc⟩ := hP
        rw [List.length_map, List.take_length] at ek
        have lc := congrArg List.length ek
        rw [List.length_map] at lc
        have pb := prod_bd (b := 53) fun r hr => (okc r hr).2
        have lb := len_bd (b := 53) fun r hr => (okc r hr).2
        rw [lc, lk] at pb lb
        refine q H4 L cs b4 z4 (free1 nL) hR ⟨ct_of (by omega) okk nd ek okc (by decide), Nat.le_trans pb (by decide), (fun e => by rw [e, lk] at lc; cases lc), by omega, .inl (by omega)⟩
    refine ⟨_, rfl, rfl, _, rfl, ite2 (fun c => ?_) (fun c => ?_)⟩
    · refine ⟨_, rfl, p, 3, rfl, z1, by decide, by decide, fun H2 l ks b2 z2 nl hl ol lk okk nd => ?_⟩
      have lk : ks.length = 3 := by omega
      refine ⟨l, rfl, ⟨_, .of hl⟩, fun L nL => ?_⟩
      have nLp := z2.ne nL
      have sL := same_upd (o := .lst []) nL
      have free1 : H2 L = none → H L = none := fun h => (b1.trans b2).free z2 h
      have B2 : RB p H (upd H2 L (.lst [])) := (b1.trans b2).trans (RB.of sL)
      refine lc_list (K := K) (a := l) (xs := ks.map V.str) (fun i H' => RB p H H' ∧ Reel H' p ∧ Off H' p L ∧ H' l = some (.lst (ks.map V.str)) ∧ ∃ cs, Runs H' L cs ∧ cs.map (·.1) = ks.take i ∧ ∀ r ∈ cs, 1 ≤ r.2 ∧ r.2 ≤ ((12 : Nat) : Int)) ⟨B2, z2.same sL, (z2.off nL).upd nLp, sL _ _ hl, [], ⟨[], upd_same, .nil⟩, rfl, (fun r h => by cases h)⟩ (fun i H' _ hP => .of hP.2.2.2.1) (fun i x H4 ex hP => ?_) (fun H4 hP => ?_)
      · obtain ⟨b4, z4, o4, hl4, cs, ⟨xs, hx, hp⟩, ek, okc⟩ := hP
        obtain ⟨k, e1, rfl⟩ := str_at ex
        have hi : i < ks.length := (List.getElem?_eq_some_iff.mp e1).1
        have lx : xs.length = cs.length := Paired.len hp
        have lc := congrArg List.length ek
        rw [List.length_map, List.length_take] at lc
        have nlL : l ≠ L := fun e => by
          rw [e, nL] at hl
          cases hl
        refine ⟨rfl, yesT ⟨_, rfl, _, rfl, p, 12, rfl, z4, by decide, wide8 (by decide) (by decide), fun H5 r5 b5 z5 r50 r51 => ⟨_, _, rfl, rfl, (by show 2 ≤ sizeLine; decide), fun n nn => ?_⟩⟩⟩
        have r51 : r5 < 12 := r51
        have hx5 := b5.but _ _ nLp hx
        have hp5 : Paired (RunV H5) xs cs := Paired.imp (fun _ _ h => b5.run z4 h) hp
        have o5 := b5.off _ _ hx o4
        have hl5 := b5.strs z4 hl4
        have b45 := b4.trans b5
        have sn := same_upd (o := .tup [.str k, .int (1 + r5)]) nn
        refine ⟨_, sn _ _ hx5, small (by omega), ?_⟩
        refine ⟨(b45.trans (RB.of sn)).grow (free1 nL) (o5.same sn), (z5.same sn).upd (o5.same sn), (o5.same sn).upd nLp, ?_, cs ++ [(k, 1 + r5)], ⟨_, upd_same, Paired.app (prs_grow (sn _ _ hx5) (prs_same sn hp5)) (.cons (RunV.grow (sn _ _ hx5) ⟨n, rfl, upd_same⟩) .nil)⟩, ?_, ?_⟩
        · rw [upd_ne nlL]
          exact sn _ _ hl5
        · rw [List.map_append, ek, take_snoc e1]
          rfl
        · intro r hr
          rcases List.mem_append.mp hr with h | h
          · exact okc r h
          · rw [List.mem_singleton.mp h]
            show 1 ≤ 1 + r5 ∧ 1 + r5 ≤ ((12 : Nat) : Int)
            omega
      · obtain ⟨b4, z4, o4, hl4, cs, hR, ek, okc⟩ := hP
        rw [List.length_map, List.take_length] at ek
        have lc := congrArg List.length ek
        rw [List.length_map] at lc
        have pb := prod_bd (b := 12) fun r hr => (okc r hr).2
        have lb := len_bd (b := 12) fun r hr => (okc r hr).2
        rw [lc, lk] at pb lb
        refine q H4 L cs b4 z4 (free1 nL) hR ⟨ct_of (by omega) okk nd ek okc (by decide), Nat.le_trans pb (by decide), (fun e => by rw [e, lk] at lc; cases lc), by omega, .inl (by omega)⟩
    refine ⟨_, rfl, rfl, _, rfl, ite2 (fun c => ?_) (fun c => ?_)⟩
    · refine ⟨_, rfl, p, 11, rfl, z1, by decide, by decide, fun H2 l ks b2 z2 nl hl ol lk okk nd => ?_⟩
      have lk : ks.length = 11 := by omega
      refine ⟨l, rfl, ⟨_, .of hl⟩, fun L nL => ?_⟩
      have nLp := z2.ne nL
      have sL := same_upd (o := .lst []) nL
      have free1 : H2 L = none → H L = none := fun h => (b1.trans b2).free z2 h
      have B2 : RB p H (upd H2 L (.lst [])) := (b1.trans b2).trans (RB.of sL)
      refine lc_list (K := K) (a := l) (xs := ks.map V.str) (fun i H' => RB p H H' ∧ Reel H' p ∧ Off H' p L ∧ H' l = some (.lst (ks.map V.str)) ∧ ∃ cs, Runs H' L cs ∧ cs.map (·.1) = ks.take i ∧ ∀ r ∈ cs, 1 ≤ r.2 ∧ r.2 ≤ ((1 : Nat) : Int)) ⟨B2, z2.same sL, (z2.off nL).upd nLp, sL _ _ hl, [], ⟨[], upd_same, .nil⟩, rfl, (fun r h => by cases h)⟩ (fun i H' _ hP => .of hP.2.2.2.1) (fun i x H4 ex hP => ?_) (fun H4 hP => ?_)
      · obtain ⟨b4, z4, o4, hl4, cs, ⟨xs, hx, hp⟩, ek, okc⟩ := hP
        obtain ⟨k, e1, rfl⟩ := str_at ex
        have hi : i < ks.length := (List.getElem?_eq_some_iff.mp e1).1
        have lx : xs.length = cs.length := Paired.len hp
        have lc := congrArg List.length ek
        rw [List.length_map, List.length_take] at lc
        have nlL : l ≠ L := fun e => by
          rw [e, nL] at hl
          cases hl
        refine ⟨rfl, yesT ⟨_, rfl, (by show 2 ≤ sizeLine; decide), fun n nn => ?_⟩⟩
        have hx5 := hx
        have hp5 := hp
        have o5 := o4
        have hl5 := hl4
        have b45 := b4
        have z5 := z4
        have sn := same_upd (o := .tup [.str k, .int 1]) nn
        refine ⟨_, sn _ _ hx5, small (by omega), ?_⟩
        refine ⟨(b45.trans (RB.of sn)).grow (free1 nL) (o5.same sn), (z5.same sn).upd (o5.same sn), (o5.same sn).upd nLp, ?_, cs ++ [(k, 1)], ⟨_, upd_same, Paired.app (prs_grow (sn _ _ hx5) (prs_same sn hp5)) (.cons (RunV.grow (sn _ _ hx5) ⟨n, rfl, upd_same⟩) .nil)⟩, ?_, ?_⟩
        · rw [upd_ne nlL]
          exact sn _ _ hl5
        · rw [List.map_append, ek, take_snoc e1]
          rfl
        · intro r hr
          rcases List.mem_append.mp hr with h | h
          · exact okc r h
          · rw [List.mem_singleton.mp h]
            show 1 ≤ (1 : Int) ∧ (1 : Int) ≤ ((1 : Nat) : Int)
            omega
      · obtain ⟨b4, z4, o4, hl4, cs, hR, ek, okc⟩ := hP
        rw [List.length_map, List.take_length] at ek
        have lc := congrArg List.length ek
        rw [List.length_map] at lc
        have pb := prod_bd (b := 1) fun r hr => (okc r hr).2
        have lb := len_bd (b := 1) fun r hr => (okc r hr).2
        rw [lc, lk] at pb lb
        refine q H4 L cs b4 z4 (free1 nL) hR ⟨ct_of (by omega) okk nd ek okc (by decide), Nat.le_trans pb (by decide), (fun e => by rw [e, lk] at lc; cases lc), by omega, .inr ⟨by omega, fun r hr => by have := okc r hr; omega⟩⟩
    · dsimp only [tLst, tCons, tTup, tC, tNil]
      refine ⟨(by show 2 ≤ sizeLine; decide), fun u nu => ⟨(by show 2 ≤ sizeLine; decide), fun v nv => ⟨(by show 2 ≤ sizeLine; decide), fun x nx => ⟨(by show 3 ≤ sizeLine; decide), fun L nL => ?_⟩⟩⟩⟩
      have su := same_upd (o := .tup [.str "a", .int 9]) nu
      have sv := same_upd (o := .tup [.str "b", .int 9]) nv
      have sx := same_upd (o := .tup [.str "c", .int 28]) nx
      have sL := same_upd (o := .lst [.ref u, .ref v, .ref x]) nL
      have s3 := sx.trans sL
      have s2 := sv.trans s3
      have s1 := su.trans s2
      refine q _ L bigC (b1.trans (RB.of s1)) (z1.same s1) (b1.free z1 (su.free (sv.free (sx.free nL)))) ⟨_, upd_same, .cons ⟨u, rfl, s2 _ _ upd_same⟩ (.cons ⟨v, rfl, s3 _ _ upd_same⟩ (.cons ⟨x, rfl, sL _ _ upd_same⟩ .nil))⟩ bigC_ok
end
end UP

set_option Elab.async false
set_option linter.all false
set_option maxRecDepth 100000
set_option maxHeartbeats 4000000
set_option pp.maxSteps 900
namespace UP
open PySem PySem.Spec PyProof.Rows L2
theorem lc_rngC {lo c : Int} {n : Nat} {g : TG} {tt : TT} {te : TE} {vs : List Nat} {σ : L2.St} {H1 : Hp} {D : Addr} {Qd : Hp → Prop} (Pv : Nat → Hp → Prop) (h0 : Pv 0 (upd H1 D (.lst [])))
    (hs : ∀ (i : Nat) H, i < n → Pv i H → g (.int (lo + (i : Nat) * c)) (wipe σ vs) H fun σ2 H2 => wipe σ2 vs = wipe σ vs ∧ tt σ2 H2 fun b H3 =>
      if b = true then te σ2 H3 fun y H4 => ∃ acc, H4 D = some (.lst acc) ∧ acc.length < sizeLine ∧ Pv (i + 1) (upd H4 D (.lst (acc ++ [y]))) else Pv (i + 1) H3) (hd : ∀ H, Pv n H → Qd H) :
    ∃ W : Nat → Nat → Hp → Prop, (∃ m, W 0 m (upd H1 D (.lst []))) ∧ ∀ i m H, W i m H →
      ((Itc lo c n).stop i H ∧ Qd H) ∨ ((Itc lo c n).go i H ∧ ∃ Nx : Hp → Prop, (∀ H', Nx H' → ∃ m', m' < m ∧ W (i + 1) m' H') ∧ ∀ x H', (Itc lo c n).yld i H x H' → g x (wipe σ vs) H' fun σ2 H2 => wipe σ2 vs = wipe σ vs ∧ tt σ2 H2 fun b H3 =>
        if b = true then te σ2 H3 fun y H4 => ∃ acc, H4 D = some (.lst acc) ∧ acc.length < sizeLine ∧ Nx (upd H4 D (.lst (acc ++ [y]))) else Nx H3) := by
  refine ⟨fun i m H => m = n - i ∧ i ≤ n ∧ Pv i H, ⟨n, by simp, Nat.zero_le _, h0⟩, ?_⟩
  rintro i m H ⟨rfl, hi, p⟩
  by_cases hlt : i < n
  · refine .inr ⟨hlt, Pv (i + 1), fun H' p' => ⟨n - (i + 1), by omega, rfl, hlt, p'⟩, fun x H' y => ?_⟩
    obtain ⟨e, y⟩ := y
    subst e y
    exact hs i _ hlt p
  · have e : i = n := by omega
    subst e
    exact .inl ⟨Nat.le_refl _, hd H p⟩
theorem rgC2 {x y : Int} (h1 : 1 ≤ x) (h2 : x ≤ y) (h3 : y ≤ 10000) : RgC x (y + 1) 2 (stepN x y) := by
  have e : Builtin.Range.rangeSize x (y + 1) 2 = (stepN x y : Nat) := by
    unfold Builtin.Range.rangeSize stepN
    rw [if_pos (by decide), if_pos (by omega)]
    omega
  refine ⟨by decide, by decide, ?_, e⟩
  unfold Builtin.Range.small
  rw [e]
  unfold stepN
  simp only [Builtin.Range.rangeFitsLong, Bool.and_eq_true, Bool.or_eq_true, decide_eq_true_eq, beq_iff_eq, if_pos (show (2 : Int) > 0 by decide)]
  omega
theorem posbL_snoc (cs l : List Run) (r : Run) : posbL cs (l ++ [r]) = posbL cs l ++ rgS r.1 (rgO cs r.1) := by
  unfold posbL
  rw [List.flatMap_append, List.flatMap_cons, List.flatMap_nil, List.append_nil, List.append_assoc]
section
variable {P : Program} {w : World} {K : PySem.W.Frag} {mg : Str → Option Value} {base : Heap}
/-! _law_multinomial: slots 0:counts 1:found 2:total 3:kind 4:count 5:number -/
abbrev s_law_multinomial : Stmt := topS 64
theorem sc_law_multinomial : FnScope ["counts", "found", "total", "kind", "count", "number"] ["counts"] (defScope s_law_multinomial) := ⟨rfl, rfl, rfl, by decide +kernel, rfl, by decide +kernel, by decide +kernel⟩
def sp_law_multinomial : Sp := fun vs H Q _ => ∃ (a : Addr) (cs : List Run), vs = [.ref a] ∧ Runs H a cs ∧ CtOk cs ∧ prodM cs ≤ 3000 ∧ ∀ H', Same H H' → Q (natV (mulN 0 cs)) H'
theorem ok_law_multinomial (D : Df K mg "_law_multinomial" s_law_multinomial) (T : Tx mg) : Has P w K mg base 1 "_law_multinomial" ["counts"] sp_law_multinomial := by
  refine has_of D sc_law_multinomial (fun _ _ _ _ _ _ us hl => match us, hl with | [_], _ => rfl) (fun vs H Q E h => ?_) (fun f cdv A₀ outer s₀ H vs Q E hr h => ?_)
  · obtain ⟨_, _, rfl, _⟩ := h
    rfl
  · obtain ⟨a, cs, rfl, hR, ok, p3, q⟩ := h
    have l12 := ok.1
    have pos : ∀ r ∈ cs, 1 ≤ r.2 := fun r hr => (ok.2.1 r hr).2.1
    have ln := lenN_le cs
    refine ⟨_, (pss_cons (ps_asg (pe_tup (pa_cons pe_int (pa_cons pe_int pa_nil))) (pg_tup rfl (pgs_cons (pg_name (i := 1) sc_law_multinomial.nd rfl (by first | exact Or.inl rfl | exact Or.inr rfl)) (pgs_cons (pg_name (i := 2) sc_law_multinomial.nd rfl (by first | exact Or.inl rfl | exact Or.inr rfl)) pgs_nil))))
    (pss_cons (ps_for PassesOwn.never rfl (pi_list (pv 0)) (pg_tup rfl (pgs_cons (pg_name (i := 3) sc_law_multinomial.nd rfl (by first | exact Or.inl rfl | exact Or.inr rfl)) (pgs_cons (pg_name (i := 4) sc_law_multinomial.nd rfl (by first | exact Or.inl rfl | exact Or.inr rfl)) pgs_nil)))
      (pss_one (ps_for PassesOwn.never rfl (pi_range2 (by rfl) T.n_range (pa_cons pe_int (pa_cons (pe_op op_add (pv 4) pe_int) pa_nil))) (pg_name (i := 5) sc_law_multinomial.nd rfl (by first | exact Or.inl rfl | exact Or.inr rfl))
      (pss_cons (ps_set (i := 2) sc_law_multinomial.nd rfl (by first | exact Or.inl rfl | exact Or.inr rfl) (pe_op op_add (pv 2) pe_int))
    (pss_one (ps_set (i := 1) sc_law_multinomial.nd rfl (by first | exact Or.inl rfl | exact Or.inr rfl) (pe_op op_fdivW (pe_op op_mulW (pv 1) (pv 2)) (pv 5))))))))
    (pss_one (ps_ret (pv 1))))), ?_⟩
    refine ⟨(by show 2 ≤ sizeLine; decide), fun t0 n0 => ⟨t0, _, rfl, .of upd_same, rfl, _, _, rfl, _, _, rfl, rfl, ?_⟩⟩
    have s2 := same_upd (o := .tup [.int 1, .int 0]) n0
    obtain ⟨H2, eH⟩ : ∃ H2, upd H t0 (.tup [.int 1, .int 0]) = H2 := ⟨_, rfl⟩
    rw [eH] at s2 ⊢
    obtain ⟨xs, hx, hp⟩ := hR.same s2
    have lx : xs.length = cs.length := Paired.len hp
    refine ⟨_, rfl, a, rfl, ⟨xs, .of hx⟩, for_list (K := K) (a := a) (xs := xs) (fun i σ H' => ∃ y3 y4 y5, σ = [some (.ref a), some (natV (mulN 0 (cs.take i))), some (natV (lenN (cs.take i))), y3, y4, y5] ∧ H' = H2 ∧ mulN 0 (cs.take i) ≤ 4096 ^ lenN (cs.take i)) ⟨none, none, none, rfl, rfl, Nat.le_refl _⟩ (fun i σ H' _ hP => ?_) (fun i x σ H3 ex hP => ?_) (fun σ H3 hP => ?_)⟩
    · obtain ⟨_, _, _, _, rfl, _⟩ := hP
      exact .of hx
    · obtain ⟨y3, y4, y5, rfl, rfl, bd⟩ := hP
      obtain ⟨r, er, t, rfl, ht⟩ := Paired.at hp ex
      have r1 := pos r (List.mem_of_getElem? er)
      have tk := take_snoc er
      have lt : lenN (cs.take (i + 1)) ≤ lenN cs := lenN_take cs (i + 1)
      rw [tk, lenN_snoc] at lt
      have mu := mulN_snoc r 0 (cs.take i)
      rw [Nat.zero_add] at mu
      rw [tk, mu, lenN_snoc]
      generalize mulN 0 (cs.take i) = M at *
      generalize lenN (cs.take i) = l at *
      refine ⟨t, _, rfl, .of ht, rfl, _, _, rfl, _, _, rfl, rfl, ?_⟩
      refine ⟨_, rfl, _, _, rfl, rfl, 1, r.2 + 1, rfl, by omega, for_range (lo := 1) (n := (r.2 + 1 - 1).toNat) (fun j σ H' => ∃ y5, σ = [some (.ref a), some (natV (M * ch (l + j) j)), some (natV (l + j)), some (.str r.1), some (.int r.2), y5] ∧ H' = H3 ∧ M * ch (l + j) j ≤ 4096 ^ (l + j)) ⟨y5, ?_, rfl, ?_⟩ (fun j σ H' hj hP => ?_) (fun σ H' hP => ?_)⟩
      · rw [Nat.add_zero, ch_zero, Nat.mul_one]
        rfl
      · rw [Nat.add_zero, ch_zero, Nat.mul_one]
        exact bd
      · obtain ⟨y6, rfl, rfl, bd2⟩ := hP
        have hj : (j : Int) + 1 ≤ r.2 := by
          have : j < (r.2 + 1 - 1).toNat := hj
          omega
        have e0 : M * ch (l + j) j * (l + j + 1) = M * ch (l + (j + 1)) (j + 1) * (j + 1) := by
          have st := ch_step (l + j) j
          rw [Nat.mul_assoc, Nat.mul_assoc, Nat.mul_comm (ch (l + j) j), st]
          rfl
        have b3 : M * ch (l + (j + 1)) (j + 1) ≤ 4096 ^ (l + (j + 1)) := by
          have h1 : M * ch (l + (j + 1)) (j + 1) ≤ M * ch (l + (j + 1)) (j + 1) * (j + 1) := Nat.le_mul_of_pos_right _ (Nat.succ_pos j)
          rw [← e0] at h1
          have h2 : M * ch (l + j) j * (l + j + 1) ≤ 4096 ^ (l + j) * 4096 := Nat.mul_le_mul bd2 (by omega)
          rw [← Nat.pow_succ] at h2
          exact Nat.le_trans h1 h2
        have b4 : M * ch (l + j) j < 2 ^ 36001 := by
          have h1 : (4096 : Nat) ^ (l + j) ≤ 4096 ^ 3000 := Nat.pow_le_pow_right (by decide) (by omega)
          have h2 : (4096 : Nat) ^ 3000 = 2 ^ (12 * 3000) := by rw [Nat.pow_mul]
          have h3 : (2 : Nat) ^ (12 * 3000) < 2 ^ 36001 := Nat.pow_lt_pow_right (by decide) (by decide)
          rw [h2] at h1
          exact Nat.lt_of_le_of_lt (Nat.le_trans bd2 h1) h3
        refine ⟨_, rfl, _, _, rfl, rfl, _, rfl, _, rfl, _, _, rfl, rfl, wide_mul (a := 36001) (b := 13) (by rw [Int.natAbs_natCast]; exact b4) (by show (((l + j : Nat) : Int) + 1).natAbs < 8192; omega) (by decide) (by decide) (by decide), _, rfl, _, _, rfl, rfl, wide_div (b := 13) (by omega) (by show (1 + (j : Int)).natAbs < 8192; omega) (by decide) (by decide), some (.int (1 + (j : Int))), ?_, rfl, b3⟩
        have e1 : (((M * ch (l + j) j : Nat) : Int) * (((l + j : Nat) : Int) + 1)) / (1 + (j : Int)) = ((M * ch (l + (j + 1)) (j + 1) : Nat) : Int) := by
          have e2 : ((M * ch (l + j) j : Nat) : Int) * (((l + j : Nat) : Int) + 1) = ((M * ch (l + (j + 1)) (j + 1) : Nat) : Int) * (1 + (j : Int)) := by
            have := congrArg (fun n : Nat => (n : Int)) e0
            simp only [Int.natCast_mul] at this ⊢
            rw [show (1 : Int) + (j : Int) = ((j + 1 : Nat) : Int) by omega, show ((l + j : Nat) : Int) + 1 = ((l + j + 1 : Nat) : Int) by omega]
            exact this
          rw [e2]
          exact Int.mul_ediv_cancel _ (by omega)
        have e3 : V.int (((M * ch (l + j) j : Nat) : Int) * (((l + j : Nat) : Int) + 1) / (1 + (j : Int))) = natV (M * ch (l + (j + 1)) (j + 1)) := by
          unfold natV
          rw [e1]
        have e4 : V.int (((l + j : Nat) : Int) + 1) = natV (l + (j + 1)) := by
          unfold natV
          congr 1
        rw [← e3, ← e4]
        rfl
      · obtain ⟨y6, rfl, rfl, bd2⟩ := hP
        have e : (r.2 + 1 - 1).toNat = r.2.toNat := by omega
        rw [e] at bd2 ⊢
        exact ⟨_, _, _, rfl, rfl, bd2⟩
    · obtain ⟨y3, y4, y5, rfl, rfl, _⟩ := hP
      rw [lx, List.take_length]
      exact ⟨_, rfl, q _ s2⟩
/-! _law_possible: slots 0:counts 1:found 2:kind 3:count 4:numbers 5:number -/
abbrev s_law_possible : Stmt := topS 65
theorem sc_law_possible : FnScope ["counts", "found", "kind", "count", "numbers", "number"] ["counts"] (defScope s_law_possible) := ⟨rfl, rfl, rfl, by decide +kernel, rfl, by decide +kernel, by decide +kernel⟩
def sp_law_possible : Sp := fun vs H Q _ => ∃ (a : Addr) (cs : List Run), vs = [.ref a] ∧ Runs H a cs ∧ CtOk cs ∧ (∀ r ∈ cs, r.2 ≤ 1500) ∧ ∀ H' p xs, Same H H' → H p = none → H' p = some (.lst xs) → Paired (StV H') xs (posb cs) → Q (.ref p) H'
theorem ok_law_possible (D : Df K mg "_law_possible" s_law_possible) (T : Tx mg) (G_can_remain : Has P w K mg base 7 "can_remain" ["counts", "state"] sp_can_remain) (G_remaining_range : Has P w K mg base 6 "remaining_range" ["counts", "kind"] sp_remaining_range) : Has P w K mg base 8 "_law_possible" ["counts"] sp_law_possible := by
  have G_can_remain := G_can_remain.canB
  refine has_of D sc_law_possible (fun _ _ _ _ _ _ us hl => match us, hl with | [_], _ => rfl) (fun vs H Q E h => ?_) (fun f cdv A₀ outer s₀ H vs Q E hr h => ?_)
  · obtain ⟨_, _, rfl, _⟩ := h
    rfl
  · obtain ⟨a, cs, rfl, hR, ok, b15, q⟩ := h
    have l12 := ok.1
    refine ⟨_, (pss_cons (ps_set (i := 1) sc_law_possible.nd rfl (by first | exact Or.inl rfl | exact Or.inr rfl) (pe_op op_rep (pe_lst (pa_cons pe_non pa_nil)) (pe_callTy call_int1 (by rfl) T.n_int (by decide +kernel) (pa_cons (pe_callH G_can_remain (hr.mono (by omega)) (by rfl) (pa_cons (pv 0) (pa_cons pe_non pa_nil))) pa_nil))))
    (pss_cons (ps_for PassesOwn.never rfl (pi_list (pv 0)) (pg_tup rfl (pgs_cons (pg_name (i := 2) sc_law_possible.nd rfl (by first | exact Or.inl rfl | exact Or.inr rfl)) (pgs_cons (pg_name (i := 3) sc_law_possible.nd rfl (by first | exact Or.inl rfl | exact Or.inr rfl)) pgs_nil)))
      (pss_cons (ps_set (i := 4) sc_law_possible.nd rfl (by first | exact Or.inl rfl | exact Or.inr rfl) (pe_callH G_remaining_range (hr.mono (by omega)) (by rfl) (pa_cons (pv 0) (pa_cons (pv 2) pa_nil))))
    (pss_one (ps_if (pt_cmpR op_notN (pv 4) pe_non (nomark _)) (pss_one (ps_expr (pe_bm PySem.F.plainAttrs_list PySem.F.slot_list_extend PySem.F.type_list_extend mt_extend (pv 1) (pa_cons (pe_lc (own := [("number", 5)]) rfl sc_law_possible.nd (pi_range3 (by rfl) T.n_range (pa_cons (pe_ix ix_tup (pv 4) pe_int (fun _ _ => rfl)) (pa_cons (pe_op op_add (pe_ix ix_tup (pv 4) pe_int (fun _ _ => rfl)) pe_int) (pa_cons pe_int pa_nil)))) (blkOk_by (N := ["counts", "found", "kind", "count", "numbers", "number"]) (sc := defScope s_law_possible) (by decide +kernel)) (fun _ _ _ _ _ => (pg_name (i := 5) sc_law_possible.nd rfl (by first | exact Or.inl rfl | exact Or.inr rfl))) (fun _ _ _ _ _ => pts_nil) (fun _ _ _ _ _ => (pe_tup (pa_cons (pv 2) (pa_cons (pv 5) pa_nil))))) pa_nil)))) pss_nil))))
    (pss_one (ps_ret (pv 1))))), ?_⟩
    refine ⟨Nat.le_of_lt (small (by decide)), fun e ne => ?_⟩
    have se := same_upd (o := .lst [.non]) ne
    have he : (upd H e (.lst [.non])) e = some (.lst [.non]) := upd_same
    refine ⟨_, rfl, .ref a, .non, cs, none, rfl, (hR.same se).dress, ok, rfl, (fun r e => by cases e), fun H1 s1 => .inr ⟨_, rfl, ?_⟩⟩
    have h0 : ∃ k : Nat, (if canB cs none = true then (1 : Int) else 0) = (k : Int) ∧ k ≤ 1 ∧ (List.replicate k [V.non]).flatten = (posbL cs []).map fun _ => V.non := by
      unfold posbL
      rw [List.flatMap_nil, List.append_nil]
      split
      · exact ⟨1, rfl, Nat.le_refl _, rfl⟩
      · exact ⟨0, rfl, Nat.zero_le _, rfl⟩
    obtain ⟨k, ek, k1, el⟩ := h0
    refine ⟨e, _, [.non], rfl, rfl, s1 _ _ he, ?_, ?_, ?_, fun L nL => ?_⟩
    · rw [ek]; omega
    · rw [ek]; omega
    · rw [ek]
      exact Nat.le_of_lt (small (by show 1 * (k : Int).toNat ≤ 1000000; omega))
    rw [ek, Int.toNat_natCast, el]
    have sL := same_upd (o := .lst ((posbL cs []).map fun _ => V.non)) nL
    have s2 := se.trans (s1.trans sL)
    obtain ⟨H2, eH⟩ : ∃ H2, upd H1 L (.lst ((posbL cs []).map fun _ => V.non)) = H2 := ⟨_, rfl⟩
    have hL2 : H2 L = some (.lst ((posbL cs []).map fun _ => V.non)) := by rw [← eH]; exact upd_same
    rw [eH] at s2 ⊢
    have nLH : H L = none := se.free (s1.free nL)
    obtain ⟨xs, hx, hp⟩ := id hR
    have lx : xs.length = cs.length := Paired.len hp
    have p0 : Paired (StV H2) ((posbL cs []).map fun _ => V.non) (posbL cs []) := by
      have all : ∀ s ∈ posbL cs [], s = none := fun s hs => by
        unfold posbL at hs
        rw [List.flatMap_nil, List.append_nil] at hs
        split at hs
        · exact List.mem_singleton.mp hs
        · cases hs
      generalize posbL cs [] = l at all ⊢
      induction l with
      | nil => exact .nil
      | cons x t ih => exact .cons (by rw [all x (List.mem_cons_self ..)]; rfl) (ih fun s hs => all s (List.mem_cons_of_mem _ hs))
    refine ⟨_, rfl, a, rfl, ⟨xs, .of (s2 _ _ hx)⟩, for_list (K := K) (a := a) (xs := xs) (fun i σ H' => ∃ y2 y3 y4 y5 zs, σ = [some (.ref a), some (.ref L), y2, y3, y4, y5] ∧ Same H H' ∧ H' L = some (.lst zs) ∧ Paired (StV H') zs (posbL cs (cs.take i))) ⟨none, none, none, none, _, rfl, s2, hL2, p0⟩ (fun i σ H' _ hP => ?_) (fun i x σ H4 ex hP => ?_) (fun σ H4 hP => ?_)⟩
    · obtain ⟨_, _, _, _, _, _, sm, _⟩ := hP
      exact .of (sm _ _ hx)
    · obtain ⟨y2, y3, y4, y5, zs, rfl, sm, hL, hz⟩ := hP
      obtain ⟨r, er, hr1⟩ := Paired.at hp ex
      have rm := List.mem_of_getElem? er
      have rok := ok.2.1 r rm
      obtain ⟨t, rfl, ht⟩ := RunV.same sm hr1
      refine ⟨t, _, rfl, .of ht, rfl, _, _, rfl, _, _, rfl, rfl, ?_⟩
      rw [take_snoc er, posbL_snoc]
      refine ⟨_, rfl, _, rfl, .ref a, cs, r.1, rfl, (hR.same sm).dress, ok, rok.1, fun e5 H5 s5 => ?_, fun x y e5 H5 tt s5 htt => ?_⟩
      · refine ⟨_, rfl, rfl, _, rfl, iteN rfl ⟨some (.str r.1), some (.int r.2), some .non, y5, zs, rfl, sm.trans s5, s5 _ _ hL, ?_⟩⟩
        rw [e5]
        show Paired _ zs (posbL cs (cs.take i) ++ [])
        rw [List.append_nil]
        exact Paired.imp (fun _ _ h => h.same s5) hz
      · have le := rg_le e5
        rw [own_mem ok rm] at le
        have b5 := b15 r rm
        have hL5 := s5 _ _ hL
        have hz5 : Paired (StV H5) zs (posbL cs (cs.take i)) := Paired.imp (fun _ _ h => h.same s5) hz
        have sm5 := sm.trans s5
        refine ⟨_, rfl, rfl, _, rfl, iteP rfl ⟨_, rfl, .inl ⟨rfl, _, SqL.of hL5⟩, _, rfl, tt, _, 0, _, rfl, rfl, .of htt, at0, _, rfl, tt, _, 1, _, rfl, rfl, .of htt, at1, _, _, rfl, rfl, x, y + 1, 2, stepN x y, rfl, rgC2 le.1 le.2.1 (by omega), fun M nM => ?_⟩⟩
        have sM := same_upd (o := .lst []) nM
        have sn : stepN x y ≤ 1500 := by unfold stepN; omega
        refine lc_rngC (fun j H' => Same H5 H' ∧ ∃ us, H' M = some (.lst us) ∧ us.length = j ∧ Paired (StV H') us ((List.range j).map fun j : Nat => (some (r.1, x + ((j : Nat) : Int) * 2) : Option Run))) ⟨sM, [], upd_same, rfl, .nil⟩ (fun j H6 hj hP => ?_) (fun H6 hP => ?_)
        · obtain ⟨s6, us, hM, lu, hu⟩ := hP
          refine ⟨rfl, yesT ⟨_, rfl, _, rfl, (by show 2 ≤ sizeLine; decide), fun n nn => ?_⟩⟩
          have sn6 := same_upd (o := .tup [.str r.1, .int (x + (j : Int) * 2)]) nn
          refine ⟨_, sn6 _ _ hM, small (by omega), same_grow nM (s6.trans sn6), _, upd_same, by rw [List.length_append, lu]; rfl, ?_⟩
          rw [List.range_succ, List.map_append]
          have tp := Tups.put (o := .lst (us ++ [V.ref n])) (noTup_lst (sn6 _ _ hM))
          exact Paired.app (Paired.imp (fun _ _ h => (h.same sn6).tups tp) hu) (.cons (StV.tups tp ⟨n, rfl, upd_same⟩) .nil)
        · obtain ⟨s6, us, hM, lu, hu⟩ := hP
          have hL6 := s6 _ _ hL5
          have lz := Paired.len hz
          have pl := posbL_len ok b15 (cs.take i) fun q hq => List.mem_of_mem_take hq
          have lt : (cs.take i).length ≤ 12 := by rw [List.length_take]; omega
          refine ⟨L, M, zs, us, rfl, rfl, hL6, hM, Nat.le_of_lt (small (by omega)), ?_⟩
          have tp := Tups.put (o := .lst (zs ++ us)) (noTup_lst hL6)
          refine ⟨some (.str r.1), some (.int r.2), some (.ref tt), y5, zs ++ us, rfl, same_grow nLH (sm5.trans s6), upd_same, ?_⟩
          rw [e5]
          exact Paired.app (Paired.imp (fun _ _ h => (h.same s6).tups tp) hz5) (Paired.imp (fun _ _ h => h.tups tp) hu)
    · obtain ⟨y2, y3, y4, y5, zs, rfl, sm, hL, hz⟩ := hP
      rw [lx, List.take_length] at hz
      exact ⟨_, rfl, q _ L zs sm nLH hL hz⟩
end
end UP

set_option Elab.async false
set_option linter.all false
set_option maxRecDepth 100000
set_option maxHeartbeats 4000000
set_option pp.maxSteps 900
namespace UP
open PySem PySem.Spec PyProof.Rows L2
theorem if_gen {c : TT} {t u rest : TS} {D : Ends} {σ : L2.St} {H : Hp} (Ok : L2.St → Hp → Prop) (h : ∀ R : L2.St → Hp → Prop, (∀ σ' H', Ok σ' H' → R σ' H') → tIfS c t u { D with nx := R } σ H) (k : ∀ σ' H', Ok σ' H' → rest D σ' H') : tSeq (tIfS c t u) rest D σ H := h (rest D) k
theorem asg_val {te : TE} {i : Nat} {rest : TS} {D : Ends} {σ : L2.St} {H : Hp} (Ok : V → Hp → Prop) (h : ∀ Q : VK, (∀ v H', Ok v H' → Q v H') → te σ H Q) (k : ∀ v H', Ok v H' → rest D (σ.set i (some v)) H') : tSeq (tAsg te (gName i)) rest D σ H := h _ k
theorem ifS_orH {c1 c2 : TT} {t u : TS} {D : Ends} {σ : L2.St} {H : Hp} {b1 b2 : Bool} (S : Hp → Prop) (h1 : ∀ R : Bool → Hp → Prop, (∀ H', S H' → R b1 H') → c1 σ H R) (h2 : ∀ (R : Bool → Hp → Prop) (H' : Hp), S H' → (∀ H'', S H'' → R b2 H'') → c2 σ H' R) (k1 : (b1 || b2) = true → ∀ H', S H' → t D σ H') (k2 : (b1 || b2) = false → ∀ H', S H' → u D σ H') : tIfS (tOr c1 c2) t u D σ H := by
  refine h1 _ fun H' s => ?_
  cases b1 with
  | true => exact iteT (iteT (k1 rfl _ s))
  | false =>
    refine iteF (h2 _ _ s fun H'' s2 => ?_)
    cases b2 with
    | true => exact iteT (k1 rfl _ s2)
    | false => exact iteF (k2 rfl _ s2)
theorem dp_runsC {K : PySem.W.Frag} {H : Hp} {L : Addr} {rs : List Run} (h : Runs H L rs) : Dp K H (.ref L) (.list (rs.map dRun)) := by
  obtain ⟨xs, hx, hp⟩ := h
  refine .lst (.of hx) ?_
  have gen : ∀ {xs : List V} {rs : List Run}, Paired (RunV H) xs rs → DpAll K H xs (rs.map dRun) := by
    intro xs rs h
    induction h with
    | nil => exact .nil
    | cons h _ ih => exact .cons (dp_run h) ih
  exact gen hp
section
variable {P : Program} {w : World} {K : PySem.W.Frag} {mg : Str → Option Value} {base : Heap}
/-! _law_numbered_right: slots 0:reel 1:counts 2:goal 3:many 4:index 5:items 6:end 7:kind 8:count -/
abbrev s_law_numbered_right : Stmt := topS 66
theorem sc_law_numbered_right : FnScope ["reel", "counts", "goal", "many", "index", "items", "end", "kind", "count"] ["reel", "counts", "goal", "many"] (defScope s_law_numbered_right) := ⟨rfl, rfl, rfl, by decide +kernel, rfl, by decide +kernel, by decide +kernel⟩
def sp_law_numbered_right : Sp := fun vs H Q _ => ∃ (p a : Addr) (v : V) (cs : List Run) (g : Option Run), vs = [.ref p, .ref a, v, natV (numE cs g)] ∧ Reel H p ∧ Runs H a cs ∧ BigOk cs ∧ StV H v g ∧ StOk g ∧ 0 < numE cs g ∧ ∀ H', RB p H H' → Reel H' p → Q (.bl true) H'
theorem ok_law_numbered_right (D : Df K mg "_law_numbered_right" s_law_numbered_right) (T : Tx mg) (G_law_draw : Has P w K mg base 1 "_law_draw" ["reel", "many"] sp_law_draw) (G_law_step : Has P w K mg base 1 "_law_step" ["state", "kind", "count"] sp_law_step) (G_nth_order : Has P w K mg base 6 "nth_order" ["counts", "state", "index"] sp_nth_order) (G_order_index : Has P w K mg base 6 "order_index" ["counts", "items"] sp_order_index) : Has P w K mg base 7 "_law_numbered_right" ["reel", "counts", "goal", "many"] sp_law_numbered_right := by
  refine has_of D sc_law_numbered_right (fun _ _ _ _ _ _ us hl => match us, hl with | [_, _, _, _], _ => rfl) (fun vs H Q E h => ?_) (fun f cdv A₀ outer s₀ H vs Q E hr h => ?_)
  · obtain ⟨_, _, _, _, _, rfl, _⟩ := h
    rfl
  · obtain ⟨p, a, v, cs, g, rfl, z, hR, B, hv, so, n0, q⟩ := h
    have ok := B.ok
    have okc := okc_of ok
    have l12 := ok.1
    have l400 := B.len
    have glen := go_len okc g
    obtain ⟨n, en⟩ : ∃ n, numE cs g = n := ⟨_, rfl⟩
    have nb := num_bd okc l400 g
    rw [en] at glen nb n0 ⊢
    have nb2 : ((n : Nat) : Int).natAbs < 2 ^ 8000 := by
      rw [Int.natAbs_natCast]
      exact Nat.lt_trans nb (Nat.pow_lt_pow_right (by decide) (by decide))
    refine ⟨_, (pss_cons (ps_set (i := 4) sc_law_numbered_right.nd rfl (by first | exact Or.inl rfl | exact Or.inr rfl) (pe_callH G_law_draw (hr.mono (by omega)) (by rfl) (pa_cons (pv 0) (pa_cons (pv 3) pa_nil))))
    (pss_cons (ps_set (i := 5) sc_law_numbered_right.nd rfl (by first | exact Or.inl rfl | exact Or.inr rfl) (pe_callH G_nth_order (hr.mono (by omega)) (by rfl) (pa_cons (pv 1) (pa_cons (pv 2) (pa_cons (pv 4) pa_nil)))))
    (pss_cons (ps_set (i := 6) sc_law_numbered_right.nd rfl (by first | exact Or.inl rfl | exact Or.inr rfl) pe_non)
    (pss_cons (ps_for PassesOwn.never rfl (pi_list (pv 5)) (pg_name (i := 7) sc_law_numbered_right.nd rfl (by first | exact Or.inl rfl | exact Or.inr rfl))
      (pss_one (ps_set (i := 6) sc_law_numbered_right.nd rfl (by first | exact Or.inl rfl | exact Or.inr rfl) (pe_callH G_law_step (hr.mono (by omega)) (by rfl) (pa_cons (pv 6) (pa_cons (pv 7) (pa_cons pe_int pa_nil)))))))
    (pss_cons (ps_if (PW.pt (pw_or (pt_cmpR (op_neD hr.units) (pv 6) (pv 2) (nomark _)) (pw_or1 (pt_cmpR (op_neD hr.units) (pe_lc (own := [("kind", 7), ("count", 8)]) rfl sc_law_numbered_right.nd (pi_list (pv 1)) (blkOk_by (N := ["reel", "counts", "goal", "many", "index", "items", "end", "kind", "count"]) (sc := defScope s_law_numbered_right) (by decide +kernel)) (fun _ _ _ _ _ => (pg_tupK (K := K) (n := 2) rfl rfl (pgs_cons (pg_name (i := 7) sc_law_numbered_right.nd rfl (by first | exact Or.inl rfl | exact Or.inr rfl)) (pgs_cons (pg_name (i := 8) sc_law_numbered_right.nd rfl (by first | exact Or.inl rfl | exact Or.inr rfl)) pgs_nil)))) (fun _ _ _ _ _ => pts_nil) (fun _ _ _ _ _ => (pe_tup (pa_cons (pv 7) (pa_cons (pe_bmK (K := K) rfl (pe_bm PySem.F.plainAttrs_list PySem.F.slot_list_count PySem.F.type_list_count (mt_countSK (K := K) rfl) (pv 5) (pa_cons (pv 7) pa_nil))) pa_nil))))) (pv 1) (nomark _))))) (pss_one (ps_ret pe_bl)) pss_nil)
    (pss_cons (ps_if (PW.pt (pw_and (pt_cmpR op_lt (pe_callB call_len_seq (by rfl) T.n_len (by decide +kernel) (pa_cons (pv 5) pa_nil)) pe_int (nomark _)) (pw_and1 (pt_cmpR op_ne (pe_callH G_order_index (hr.mono (by omega)) (by rfl) (pa_cons (pv 1) (pa_cons (pv 5) pa_nil))) (pv 4) (nomark _))))) (pss_one (ps_ret pe_bl)) pss_nil)
    (pss_one (ps_ret (pe_or (pe_cmpR op_eq (pe_op op_add (pv 4) pe_int) (pv 3) (nomark _)) (pe_one (pe_cmpR (op_gtD hr.units) (pe_callH G_nth_order (hr.mono (by omega)) (by rfl) (pa_cons (pv 1) (pa_cons (pv 2) (pa_cons (pe_op op_add (pv 4) pe_int) pa_nil)))) (pv 5) (nomark _)))))))))))), ?_⟩
    refine ⟨_, rfl, _, rfl, p, _, rfl, z, by omega, nb2, fun H1 r b1 z1 r0 r1 => ?_⟩
    obtain ⟨i, rfl⟩ := Int.eq_ofNat_of_zero_le r0
    have hR1 := b1.runs z hR
    have hv1 := b1.st z hv
    obtain ⟨l, el⟩ : ∃ l, (goL cs 0 none g)[i]? = some l := ⟨_, List.getElem?_eq_getElem (by omega)⟩
    obtain ⟨ml, sl, wl⟩ := go_mem okc (List.mem_of_getElem? el)
    have ll := wd_len _ okc rfl wl
    have okl : ∀ k ∈ l, KindOk k := fun k hk => by
      obtain ⟨r, hr, rk⟩ := List.mem_map.mp (wl.kin k hk)
      rw [← rk]
      exact (ok.2.1 r hr).1
    refine ⟨_, rfl, _, rfl, _, rfl, .ref a, v, cs, g, i, l, rfl, hR1.dress, ok, B.few, hv1.dress, so, el, fun H2 Lp s2 n2 h2 => ?_⟩
    refine ⟨_, rfl, Lp, rfl, ⟨_, .of h2⟩, for_list (K := K) (a := Lp) (xs := l.map V.str) (fun t σ H' => ∃ vr y7, σ = [some (.ref p), some (.ref a), some v, some (natV n), some (natV i), some (.ref Lp), some vr, y7, none] ∧ Same H2 H' ∧ StV H' vr (stI (l.take t) none)) ⟨.non, none, rfl, Same.refl _, rfl⟩ (fun t σ H' _ hP => ?_) (fun t x σ H4 ex hP => ?_) (fun σ H4 hP => ?_)⟩
    · obtain ⟨_, _, _, sm, _⟩ := hP
      exact .of (sm _ _ h2)
    · obtain ⟨vr, y7, rfl, s4, hvr⟩ := hP
      obtain ⟨kd, ek, rfl⟩ := str_at ex
      refine ⟨_, rfl, _, rfl, vr, _, kd, 1, rfl, hvr, by decide, fun H5 v5 s5 hv5 => ?_⟩
      refine ⟨v5, some (.str kd), rfl, s4.trans s5, ?_⟩
      rw [take_snoc ek, stI_snocP]
      exact hv5
    obtain ⟨vr, y7, rfl, s4, hvr⟩ := hP
    rw [List.length_map, List.take_length, sl] at hvr
    have s14 := s2.trans s4
    have hR4 := hR1.same s14
    have hv4 := hv1.same s14
    have h4 := s4 _ _ h2
    obtain ⟨xs, hx, hp⟩ := id hR4
    have lx : xs.length = cs.length := Paired.len hp
    dsimp only
    refine if_gen (fun σ' H' => ∃ y7 y8, σ' = [some (.ref p), some (.ref a), some v, some (natV n), some (natV i), some (.ref Lp), some vr, y7, y8] ∧ Same H4 H') (fun R hR' => ?_) (fun σ' H5 hO => ?_)
    · refine ⟨_, rfl, _, rfl, dOt g, dOt g, dp_o hvr, dp_o hv4, shaped_o so, shaped_o so, _, rfl, iteN (by rw [eqv_o, decide_eq_true rfl]; rfl) ?_⟩
      refine ⟨_, rfl, a, rfl, ⟨xs, .of hx⟩, fun M nM => lc_list (K := K) (a := a) (xs := xs) (fun k H' => Same H4 H' ∧ Runs H' M (cs.take k)) ⟨same_upd nM, [], upd_same, .nil⟩ (fun k H' _ pj => .of (pj.1 _ _ hx)) (fun k x H6 ex hP => ?_) (fun H6 hP => ?_)⟩
      · obtain ⟨s6, us, hM, hu⟩ := hP
        obtain ⟨r, er, hr1⟩ := Paired.at hp ex
        obtain ⟨t, rfl, ht⟩ := RunV.same s6 hr1
        have hk : k < cs.length := (List.getElem?_eq_some_iff.mp er).1
        have lu := Paired.len hu
        rw [List.length_take] at lu
        refine ⟨t, _, rfl, .of ht, rfl, _, _, rfl, _, _, rfl, rfl, rfl, yesT ?_⟩
        refine ⟨_, rfl, _, rfl, .inl ⟨rfl, _, SqL.of (s6 _ _ h4)⟩, _, rfl, Lp, l, r.1, rfl, rfl, .of (s6 _ _ h4), (by show 2 ≤ sizeLine; decide), fun n nn => ?_⟩
        have sn := same_upd (o := .tup [.str r.1, .int ((l.count r.1 : Nat) : Int)]) nn
        refine ⟨_, sn _ _ hM, small (by omega), same_grow nM (s6.trans sn), _, upd_same, ?_⟩
        rw [take_snoc er]
        refine Paired.app (prs_grow (sn _ _ hM) (prs_same sn hu)) (.cons (RunV.grow (sn _ _ hM) ⟨n, rfl, ?_⟩) .nil)
        rw [upd_same, wl.cnt r (List.mem_of_getElem? er)]
      · obtain ⟨s6, hM⟩ := hP
        rw [lx, List.take_length] at hM
        refine ⟨_, rfl, .list (cs.map dRun), .list (cs.map dRun), dp_runsC hM, dp_runsC (hR4.same s6), shaped_runs (fun r hr => (ok.2.1 r hr).1), shaped_runs (fun r hr => (ok.2.1 r hr).1), _, rfl, iteN (by rw [eqv_runs]; rfl) (hR' _ _ ⟨_, _, rfl, s6⟩)⟩
    obtain ⟨y7, y8, rfl, s5⟩ := hO
    have s15 := s14.trans s5
    have s25 := s4.trans s5
    refine if_gen (fun σ' H' => σ' = [some (.ref p), some (.ref a), some v, some (natV n), some (natV i), some (.ref Lp), some vr, y7, y8] ∧ Same H5 H') (fun R hR' => ?_) (fun σ' H6 hO => ?_)
    · refine ⟨_, rfl, Lp, _, rfl, .inl (.of (s25 _ _ h2)), _, _, rfl, rfl, _, rfl, iteP (decide_eq_true (by show ((l.map V.str).length : Int) < 401; rw [List.length_map]; omega)) ?_⟩
      refine ⟨_, rfl, _, rfl, .ref a, Lp, cs, i, l, rfl, (hR1.same s15).dress, ok, B.few, by omega, .inl (s25 _ _ h2), by rw [sl]; exact el, by rw [sl]; exact so, fun H7 s7 => ⟨_, rfl, rfl, _, rfl, iteN (by show (!decide (natV i = natV i)) = false; rw [decide_eq_true rfl]; rfl) (hR' _ _ ⟨rfl, s7⟩)⟩⟩
    obtain ⟨rfl, s6⟩ := hO
    have s16 := s15.trans s6
    have b6 := b1.trans (RB.of s16)
    have z6 := z1.same s16
    refine ⟨_, rfl, _, _, rfl, rfl, _, rfl, rfl, _, rfl, ?_⟩
    by_cases c : i + 1 = n
    · rw [show decide (V.int (((i : Nat) : Int) + 1) = natV n) = true from decide_eq_true (by rw [← c]; rfl)]
      exact iteT (q _ b6 z6)
    · rw [show decide (V.int (((i : Nat) : Int) + 1) = natV n) = false from decide_eq_false (fun h => c (by have := V.int.inj h; omega))]
      refine iteF ?_
      obtain ⟨l2, el2⟩ : ∃ l, (goL cs 0 none g)[i + 1]? = some l := ⟨_, List.getElem?_eq_getElem (by omega)⟩
      obtain ⟨_, _, wl2⟩ := go_mem okc (List.mem_of_getElem? el2)
      have ll2 := wd_len _ okc rfl wl2
      refine ⟨_, rfl, _, rfl, _, rfl, _, _, rfl, rfl, .ref a, v, cs, g, i + 1, l2, rfl, (hR1.same s16).dress, ok, B.few, (hv1.same s16).dress, so, el2, fun H8 L2 s8 n8 h8 => ?_⟩
      have le : l.length = l2.length := by omega
      refine ⟨_, rfl, .list (l2.map .str), .list (l.map .str), .lst (.of h8) (dp_strs _), .lst (.of (s8 _ _ (s6 _ _ (s25 _ _ h2)))) (dp_strs _), alike_list le.symm, (fun z => by cases z), depth_strs _, ?_⟩
      rw [(lt_strs le).1 (go_lex okc (Nat.lt_succ_self i) el el2)]
      exact q _ (b6.trans (RB.of s8)) (z6.same s8)
end
end UP

set_option Elab.async false
set_option linter.all false
set_option maxRecDepth 100000
set_option maxHeartbeats 4000000
set_option pp.maxSteps 900
namespace UP
open PySem PySem.Spec PyProof.Rows L2
section
variable {P : Program} {w : World} {K : PySem.W.Frag} {mg : Str → Option Value} {base : Heap}
/-! _law_last_right: slots 0:counts 1:goal 2:number 3:total 4:kind 5:count 6:less 7:rest 8:starts 9:one 10:start -/
abbrev s_law_last_right : Stmt := topS 67
theorem sc_law_last_right : FnScope ["counts", "goal", "number", "total", "kind", "count", "less", "rest", "starts", "one", "start"] ["counts", "goal", "number"] (defScope s_law_last_right) := ⟨rfl, rfl, rfl, by decide +kernel, rfl, by decide +kernel, by decide +kernel⟩
def sp_law_last_right : Sp := fun vs H Q _ => ∃ (a : Addr) (v : V) (cs : List Run) (g : Option Run), vs = [.ref a, v, natV (numE cs g)] ∧ Runs H a cs ∧ CtOk cs ∧ cs ≠ [] ∧ prodM cs ≤ 3000 ∧ StV H v g ∧ StOk g ∧ ∀ H', Same H H' → Q (.bl true) H'
theorem ok_law_last_right (D : Df K mg "_law_last_right" s_law_last_right) (T : Tx mg) (G_orders_leading_to : Has P w K mg base 6 "orders_leading_to" ["counts", "state"] sp_orders_leading_to) (G_law_of : Has P w K mg base 1 "_law_of" ["kind", "count"] sp_law_of) : Has P w K mg base 7 "_law_last_right" ["counts", "goal", "number"] sp_law_last_right := by
  refine has_of D sc_law_last_right (fun _ _ _ _ _ _ us hl => match us, hl with | [_, _, _], _ => rfl) (fun vs H Q E h => ?_) (fun f cdv A₀ outer s₀ H vs Q E hr h => ?_)
  · obtain ⟨_, _, _, _, rfl, _⟩ := h
    rfl
  · obtain ⟨a, v, cs, g, rfl, hR, ok, ne, p3, hv, so, q⟩ := h
    have okc := okc_of ok
    have l12 := ok.1
    have po : PosO g := fun r e => (so r e).2
    obtain ⟨xs, hx, hp⟩ := id hR
    have lx : xs.length = cs.length := Paired.len hp
    refine ⟨_, (pss_cons (ps_set (i := 3) sc_law_last_right.nd rfl (by first | exact Or.inl rfl | exact Or.inr rfl) pe_int)
    (pss_cons (ps_for PassesOwn.never rfl (pi_list (pv 0)) (pg_tup rfl (pgs_cons (pg_name (i := 4) sc_law_last_right.nd rfl (by first | exact Or.inl rfl | exact Or.inr rfl)) (pgs_cons (pg_name (i := 5) sc_law_last_right.nd rfl (by first | exact Or.inl rfl | exact Or.inr rfl)) pgs_nil)))
      (pss_cons (ps_setLc (i := 6) (own := [("one", 9)]) rfl sc_law_last_right.nd rfl rfl (sw_true rfl rfl rfl (by decide +kernel)) (pi_list (pv 0)) (blkOk_by (N := ["counts", "goal", "number", "total", "kind", "count", "less", "rest", "starts", "one", "start"]) (sc := defScope s_law_last_right) (by decide +kernel)) (fun _ _ _ _ _ => (pg_name (i := 9) sc_law_last_right.nd rfl (by first | exact Or.inl rfl | exact Or.inr rfl))) (fun _ _ _ _ _ => pts_nil) (fun _ _ _ _ _ => (pe_tup (pa_cons (pe_ix (ix_tupK (K := K) rfl) (pv 9) pe_int (fun _ _ => rfl)) (pa_cons (pe_op op_sub (pe_ix (ix_tupK (K := K) rfl) (pv 9) pe_int (fun _ _ => rfl)) (pe_callTy call_int1 (by rfl) T.n_int (by decide +kernel) (pa_cons (pe_cmpR op_eq (pe_ix (ix_tupK (K := K) rfl) (pv 9) pe_int (fun _ _ => rfl)) (pv 4) (nomark _)) pa_nil))) pa_nil)))))
    (pss_cons (ps_if (pt_cmpR op_isN (pv 1) pe_non (nomark _)) (pss_one (ps_setLc (i := 8) (own := [("one", 9)]) rfl sc_law_last_right.nd rfl rfl (sw_true rfl rfl rfl (by decide +kernel)) (pi_list (pv 0)) (blkOk_by (N := ["counts", "goal", "number", "total", "kind", "count", "less", "rest", "starts", "one", "start"]) (sc := defScope s_law_last_right) (by decide +kernel)) (fun _ _ _ _ _ => (pg_name (i := 9) sc_law_last_right.nd rfl (by first | exact Or.inl rfl | exact Or.inr rfl))) (fun _ _ _ _ _ => pts_one (pt_cmpR op_ne (pe_ix (ix_tupK (K := K) rfl) (pv 9) pe_int (fun _ _ => rfl)) (pv 4) (nomark _))) (fun _ _ _ _ _ => (pe_tup (pa_cons (pe_ix (ix_tupK (K := K) rfl) (pv 9) pe_int (fun _ _ => rfl)) (pa_cons pe_int pa_nil)))))) (pss_one (ps_set (i := 8) sc_law_last_right.nd rfl (by first | exact Or.inl rfl | exact Or.inr rfl) (pe_lst (pa_cons (pe_ifExp (pt_cmpR op_ne (pe_ix ix_tup (pv 1) pe_int (fun _ _ => rfl)) (pv 4) (nomark _)) (pe_tup (pa_cons (pe_ix ix_tup (pv 1) pe_int (fun _ _ => rfl)) (pa_cons (pe_op op_add (pe_ix ix_tup (pv 1) pe_int (fun _ _ => rfl)) pe_int) pa_nil))) (pe_callH G_law_of (hr.mono (by omega)) (by rfl) (pa_cons (pv 4) (pa_cons (pe_op op_sub (pe_ix ix_tup (pv 1) pe_int (fun _ _ => rfl)) pe_int) pa_nil)))) pa_nil)))))
    (pss_cons (ps_set (i := 7) sc_law_last_right.nd rfl (by first | exact Or.inl rfl | exact Or.inr rfl) (pe_lc (own := [("one", 9)]) rfl sc_law_last_right.nd (pi_list (pv 6)) (blkOk_by (N := ["counts", "goal", "number", "total", "kind", "count", "less", "rest", "starts", "one", "start"]) (sc := defScope s_law_last_right) (by decide +kernel)) (fun _ _ _ _ _ => (pg_name (i := 9) sc_law_last_right.nd rfl (by first | exact Or.inl rfl | exact Or.inr rfl))) (fun _ _ _ _ _ => pts_one (pt_cmpR op_gt (pe_ix (ix_tupK (K := K) rfl) (pv 9) pe_int (fun _ _ => rfl)) pe_int (nomark _))) (fun _ _ _ _ _ => (pv 9))))
    (pss_one (ps_set (i := 3) sc_law_last_right.nd rfl (by first | exact Or.inl rfl | exact Or.inr rfl) (pe_op op_add (pv 3) (pe_callB (cr_sum rfl) (by rfl) T.n_sum (by decide +kernel) (pa_cons (pe_lc (own := [("start", 10)]) rfl sc_law_last_right.nd (pi_list (pv 8)) (blkOk_by (N := ["counts", "goal", "number", "total", "kind", "count", "less", "rest", "starts", "one", "start"]) (sc := defScope s_law_last_right) (by decide +kernel)) (fun _ _ _ _ _ => (pg_name (i := 10) sc_law_last_right.nd rfl (by first | exact Or.inl rfl | exact Or.inr rfl))) (fun _ _ _ _ _ => pts_nil) (fun _ _ _ _ _ => (pe_callH G_orders_leading_to (hr.mono (by omega)) (by rfl) (pa_cons (pv 7) (pa_cons (pv 10) pa_nil))))) pa_nil)))))))))
    (pss_one (ps_ret (pe_cmpR op_eq (pv 3) (pv 2) (nomark _)))))), ?_⟩
    refine ⟨_, rfl, a, rfl, ⟨xs, .of hx⟩, for_list (K := K) (a := a) (xs := xs) (fun i σ H' => ∃ y4 y5 y6 y7 y8, σ = [some (.ref a), some v, some (natV (numE cs g)), some (natV ((cs.take i).map fun r => pushN (lessR cs r.1) r.1 g).sum), y4, y5, y6, y7, y8, none, none] ∧ Same H H') ⟨none, none, none, none, none, rfl, Same.refl _⟩ (fun i σ H' _ hP => ?_) (fun i x σ H1 ex hP => ?_) (fun σ H1 hP => ?_)⟩
    · obtain ⟨_, _, _, _, _, _, sm⟩ := hP
      exact .of (sm _ _ hx)
    · obtain ⟨y4, y5, y6, y7, y8, rfl, s1⟩ := hP
      obtain ⟨r, er, t, rfl, ht⟩ := Paired.at hp ex
      have rm := List.mem_of_getElem? er
      have kk := (ok.2.1 r rm).1
      obtain ⟨k, ek⟩ : ∃ k, r.1 = k := ⟨_, rfl⟩
      obtain ⟨tot, etot⟩ : ∃ tot, ((cs.take i).map fun r => pushN (lessR cs r.1) r.1 g).sum = tot := ⟨_, rfl⟩
      have es : ((cs.take (i + 1)).map fun r => pushN (lessR cs r.1) r.1 g).sum = tot + pushN (lessR cs k) k g := by
        rw [take_snoc er, List.map_append, List.sum_append, etot, ← ek]
        simp
      rw [es, etot]
      refine ⟨t, _, rfl, .of (s1 _ _ ht), rfl, _, _, rfl, _, _, rfl, rfl, ?_⟩
      rw [ek] at kk ⊢
      refine ⟨_, rfl, a, rfl, ⟨xs, .of (s1 _ _ hx)⟩, fun L nL => lc_list (K := K) (a := a) (xs := xs) (fun i H' => Same H1 H' ∧ Runs H' L ((cs.take i).map (decR k))) ⟨same_upd nL, [], upd_same, .nil⟩ (fun i H' _ p => .of (p.1 _ _ (s1 _ _ hx))) (fun i x H2 ex p => ?_) (fun H2 p => ?_)⟩
      · obtain ⟨sm, ys, hL, hy⟩ := p
        obtain ⟨r, er, t, rfl, ht⟩ := Paired.at hp ex
        have ht2 := sm _ _ (s1 _ _ ht)
        have hi : i < xs.length := (List.getElem?_eq_some_iff.mp ex).1
        have ly := Paired.len hy
        rw [List.length_map, List.length_take] at ly
        refine ⟨rfl, yesT ⟨_, rfl, t, _, _, _, rfl, rfl, .of ht2, at0, _, rfl, t, _, _, _, rfl, rfl, .of ht2, at1, _, rfl, t, _, _, _, rfl, rfl, .of ht2, at0, _, rfl, rfl, .inr ⟨_, rfl, _, _, rfl, rfl, (by show 2 ≤ sizeLine; decide), fun n nn => ⟨_, same_upd nn _ _ hL, small (by omega), same_grow nL (sm.trans (same_upd nn)), _, upd_same, ?_⟩⟩⟩⟩
        rw [take_snoc er, List.map_append]
        refine Paired.app (prs_grow (same_upd nn _ _ hL) (prs_same (same_upd nn) hy)) (.cons ?_ .nil)
        refine RunV.grow (same_upd nn _ _ hL) ⟨n, rfl, ?_⟩
        rw [upd_same]
        show some (HO.tup [V.str r.1, V.int (r.2 - if decide (V.str r.1 = V.str k) = true then 1 else 0)]) = some (HO.tup [V.str r.1, V.int (r.2 - if r.1 = k then 1 else 0)])
        by_cases c : r.1 = k
        · rw [if_pos c, if_pos (decide_eq_true (by rw [c]))]
        · rw [if_neg c, if_neg (fun z => c (by have := of_decide_eq_true z; simpa using this))]
      obtain ⟨s2, hL⟩ := p
      rw [lx, List.take_length] at hL
      have s12 := s1.trans s2
      dsimp only
      refine if_gen (fun σ' H' => ∃ S us, σ' = [some (.ref a), some v, some (natV (numE cs g)), some (natV tot), some (.str k), some (.int r.2), some (.ref L), y7, some (.ref S), none, none] ∧ Same H2 H' ∧ H' S = some (.lst us) ∧ Paired (StV H') us (startsR cs g k)) (fun R hR' => ?_) (fun σ' H3 hO => ?_)
      · cases g with
        | none =>
          cases hv
          refine ⟨_, rfl, rfl, _, rfl, iteP rfl ⟨_, rfl, a, rfl, ⟨xs, .of (s12 _ _ hx)⟩, fun S nS => lc_list (K := K) (a := a) (xs := xs) (fun j H' => Same H2 H' ∧ ∃ us, H' S = some (.lst us) ∧ us.length ≤ j ∧ Paired (StV H') us (((cs.take j).filter fun x => decide (x.1 ≠ k)).map fun x => (some (x.1, (1 : Int)) : Option Run))) ⟨same_upd nS, [], upd_same, Nat.zero_le _, .nil⟩ (fun j H' _ p => .of (p.1 _ _ (s12 _ _ hx))) (fun j x H4 ex p => ?_) (fun H4 p => ?_)⟩⟩
          · obtain ⟨s4, us, hS, lu, hu⟩ := p
            obtain ⟨r', er', t', rfl, ht'⟩ := Paired.at hp ex
            have ht4 := s4 _ _ (s12 _ _ ht')
            have hj : j < xs.length := (List.getElem?_eq_some_iff.mp ex).1
            rw [take_snoc er', List.filter_append, List.map_append]
            refine ⟨rfl, ⟨_, rfl, t', _, _, _, rfl, rfl, .of ht4, at0, _, rfl, rfl, _, rfl, ite2 (fun c => ?_) (fun c => ?_)⟩⟩
            · have c' : r'.1 ≠ k := fun z => by rw [z] at c; simp at c
              rw [show List.filter (fun x : Run => decide (x.1 ≠ k)) [r'] = [r'] by simp [c']]
              refine ⟨_, rfl, t', _, _, _, rfl, rfl, .of ht4, at0, (by show 2 ≤ sizeLine; decide), fun n nn => ?_⟩
              have sn := same_upd (o := .tup [.str r'.1, .int 1]) nn
              refine ⟨_, sn _ _ hS, small (by omega), same_grow nS (s4.trans sn), _, upd_same, by rw [List.length_append]; exact Nat.succ_le_succ lu, ?_⟩
              have tp := Tups.put (o := .lst (us ++ [V.ref n])) (noTup_lst (sn _ _ hS))
              exact Paired.app (Paired.imp (fun _ _ h => (h.same sn).tups tp) hu) (.cons (StV.tups tp ⟨n, rfl, upd_same⟩) .nil)
            · have c' : r'.1 = k := Classical.byContradiction fun z => c (by simp [z])
              rw [show List.filter (fun x : Run => decide (x.1 ≠ k)) [r'] = [] by simp [c']]
              refine ⟨s4, us, hS, Nat.le_succ_of_le lu, ?_⟩
              rw [List.map_nil, List.append_nil]
              exact hu
          · obtain ⟨s4, us, hS, _, hu⟩ := p
            rw [lx, List.take_length] at hu
            exact hR' _ _ ⟨S, us, rfl, s4, hS, hu⟩
        | some r0 =>
          obtain ⟨tg, rfl, htg⟩ := hv
          have htg2 := s12 _ _ htg
          have r1 : 1 ≤ r0.2 := po r0 rfl
          refine ⟨_, rfl, rfl, _, rfl, iteN rfl ⟨_, rfl, tg, _, _, _, rfl, rfl, .of htg2, at0, _, rfl, rfl, _, rfl, ite2 (fun c => ?_) (fun c => ?_)⟩⟩
          · have c' : r0.1 ≠ k := fun z => by rw [z] at c; simp at c
            refine ⟨_, rfl, tg, _, _, _, rfl, rfl, .of htg2, at0, _, rfl, tg, _, _, _, rfl, rfl, .of htg2, at1, _, _, rfl, rfl, (by show 2 ≤ sizeLine; decide), fun n nn => ⟨(by show 1 ≤ sizeLine; decide), fun S nS => ?_⟩⟩
            have sn := same_upd (o := .tup [.str r0.1, .int (r0.2 + 1)]) nn
            have sS := same_upd (o := .lst [.ref n]) nS
            refine hR' _ _ ⟨S, _, rfl, sn.trans sS, upd_same, ?_⟩
            show Paired _ _ [if r0.1 = k then _ else _]
            rw [if_neg c']
            exact .cons ⟨n, rfl, sS _ _ upd_same⟩ .nil
          · have c' : r0.1 = k := Classical.byContradiction fun z => c (by simp [z])
            refine ⟨_, rfl, _, rfl, tg, _, _, _, rfl, rfl, .of htg2, at1, _, _, rfl, rfl, k, _, rfl, by omega, fun H4 v4 s4 hv4 => ⟨(by show 1 ≤ sizeLine; decide), fun S nS => ?_⟩⟩
            have sS := same_upd (o := .lst [v4]) nS
            refine hR' _ _ ⟨S, _, rfl, s4.trans sS, upd_same, ?_⟩
            show Paired _ _ [if r0.1 = k then _ else _]
            rw [if_pos c']
            exact .cons (hv4.same sS) .nil
      obtain ⟨S, us, rfl, s3, hS, hus⟩ := hO
      have s13 := s12.trans s3
      obtain ⟨ys, hy, hyp⟩ := hL.same s3
      have ly : ys.length = cs.length := by rw [Paired.len hyp, List.length_map]
      refine ⟨_, rfl, L, rfl, ⟨ys, .of hy⟩, fun M nM => lc_list (K := K) (a := L) (xs := ys) (fun i H' => Same H3 H' ∧ ∃ zs, H' M = some (.lst zs) ∧ Paired (RunV H') zs (posR ((cs.map (decR k)).take i))) ⟨same_upd nM, [], upd_same, .nil⟩ (fun i H' _ p => .of (p.1 _ _ hy)) (fun i x H4 ex p => ?_) (fun H4 p => ?_)⟩
      · obtain ⟨sm, zs, hM, hz⟩ := p
        obtain ⟨r', er', hr1⟩ := Paired.at hyp ex
        obtain ⟨t', rfl, ht'⟩ := RunV.same sm hr1
        have lz : zs.length ≤ 12 := by
          rw [Paired.len hz]
          unfold posR
          refine Nat.le_trans (List.length_filter_le ..) ?_
          rw [List.length_take, List.length_map]
          omega
        refine ⟨rfl, ⟨_, rfl, t', _, _, _, rfl, rfl, .of ht', at1, _, _, rfl, rfl, _, rfl, ?_⟩⟩
        rw [take_snoc er']
        unfold posR
        rw [List.filter_append]
        refine ite2 (fun c => ?_) (fun c => ?_)
        · have c' : 0 < r'.2 := of_decide_eq_true c
          have e1 : List.filter (fun r : Run => decide (0 < r.2)) [r'] = [r'] := by simp [c']
          rw [e1]
          refine ⟨_, rfl, _, hM, small (by omega), same_grow nM sm, _, upd_same, ?_⟩
          exact Paired.app (prs_grow hM hz) (.cons (RunV.grow hM ⟨t', rfl, ht'⟩) .nil)
        · have c' : ¬ 0 < r'.2 := fun z => c (decide_eq_true z)
          have e1 : List.filter (fun r : Run => decide (0 < r.2)) [r'] = [] := by simp [c']
          rw [e1]
          refine ⟨sm, zs, hM, ?_⟩
          rw [List.append_nil]
          exact hz
      obtain ⟨s4, zs, hM, hz⟩ := p
      rw [ly, List.take_of_length_le (by rw [List.length_map]; exact Nat.le_refl _)] at hz
      have hrest : Runs H4 M (lessR cs k) := ⟨zs, hM, hz⟩
      have okl := less_ct ok k
      have lus : us.length = (startsR cs g k).length := Paired.len hus
      have lb : us.length ≤ 12 := by
        rw [lus]
        cases g with
        | none =>
          show ((cs.filter fun x => decide (x.1 ≠ k)).map _).length ≤ 12
          rw [List.length_map]
          exact Nat.le_trans (List.length_filter_le ..) l12
        | some r0 => show 1 ≤ 12; decide
      refine ⟨_, rfl, _, rfl, S, rfl, ⟨us, .of (s4 _ _ hS)⟩, fun N nN => lc_list (K := K) (a := S) (xs := us) (fun j H' => Same H4 H' ∧ H' N = some (.lst ((((startsR cs g k).take j).map fun s => numE (lessR cs k) s).map natV))) ⟨same_upd nN, upd_same⟩ (fun j H' _ p => .of (p.1 _ _ (s4 _ _ hS))) (fun j x H5 ex p => ?_) (fun H5 p => ?_)⟩
      · obtain ⟨sm, hN⟩ := p
        obtain ⟨e, ee, hxe⟩ := Paired.at hus ex
        have hj : j < us.length := (List.getElem?_eq_some_iff.mp ex).1
        refine ⟨rfl, yesT ⟨_, rfl, _, rfl, .ref M, x, lessR cs k, e, rfl, (hrest.same sm).dress, okl, Nat.le_trans (prodM_less okc k) p3, (hxe.same (s4.trans sm)).dress, starts_ok ok so kk (List.mem_of_getElem? ee), fun H6 s6 => ⟨_, s6 _ _ hN, ?_, same_grow nN (sm.trans s6), ?_⟩⟩⟩
        · simp only [List.length_map, List.length_take]
          exact small (by omega)
        · rw [upd_same, take_snoc ee, List.map_append, List.map_append]
          rfl
      · obtain ⟨sm, hN⟩ := p
        rw [lus, List.take_length] at hN
        have e1 : ((startsR cs g k).map fun s => numE (lessR cs k) s).map natV = (((startsR cs g k).map fun s => numE (lessR cs k) s).map fun n : Nat => (n : Int)).map V.int := by
          simp only [List.map_map]
          rfl
        rw [e1] at hN
        refine ⟨N, _, rfl, .of hN, ?_⟩
        rw [sum_nat, starts_sum ok po]
        have e3 : natV (tot + pushN (lessR cs k) k g) = V.int ((tot : Int) + ((pushN (lessR cs k) k g : Nat) : Int)) := by
          unfold natV
          rw [Int.natCast_add]
        rw [e3]
        exact ⟨_, _, rfl, rfl, some (.str k), some (.int r.2), some (.ref L), some (.ref M), some (.ref S), rfl, s13.trans (s4.trans sm)⟩
    · obtain ⟨y4, y5, y6, y7, y8, rfl, s1⟩ := hP
      rw [lx, List.take_length, ← num_step okc ne]
      have e2 : decide (natV (numE cs g) = natV (numE cs g)) = true := decide_eq_true rfl
      refine ⟨_, rfl, _, rfl, rfl, ?_⟩
      rw [e2]
      exact q _ s1
end
end UP

set_option Elab.async false
set_option linter.all false
set_option maxRecDepth 100000
set_option maxHeartbeats 4000000
set_option pp.maxSteps 900
namespace UP
open PySem PySem.Spec PyProof.Rows L2
theorem lng_at {i : Nat} (h : i < 1500) : (goL lng 0 none lngG)[i]? = some (abL 1499 i) := by
  rw [lng_go, List.getElem?_map, List.getElem?_range h]
  rfl
theorem lng_so : StOk lngG := fun r e => by
  cases e
  exact ⟨(lng_ok.2.1 _ (List.mem_cons_self ..)).1, by decide⟩
theorem lng_st {i : Nat} (h : i < 1500) : stI (abL 1499 i) none = lngG := (go_mem (okc_of lng_ok) (List.mem_of_getElem? (lng_at h))).2.1
theorem ab_kind {n i : Nat} : ∀ k ∈ abL n i, KindOk k := fun k hk => by
  have ka : KindOk sA := by decide +kernel
  have kb : KindOk sB := by decide +kernel
  unfold abL at hk
  rcases List.mem_append.mp hk with h | h
  · rw [(List.mem_replicate.mp h).2]; exact ka
  · rcases List.mem_cons.mp h with h | h
    · rw [h]; exact kb
    · rw [(List.mem_replicate.mp h).2]; exact ka
theorem rep_flat {α : Type} (x : α) : ∀ n : Nat, (List.replicate n [x]).flatten = List.replicate n x
  | 0 => rfl
  | n + 1 => by
    rw [List.replicate_succ, List.flatten_cons, rep_flat x n]
    rfl
theorem ab_map (n i : Nat) : (abL n i).map V.str = (List.replicate (n - i) [V.str "a"]).flatten ++ [V.str "b"] ++ (List.replicate i [V.str "a"]).flatten := by
  rw [rep_flat, rep_flat]
  unfold abL
  rw [List.map_append, List.map_cons, List.map_replicate, List.map_replicate, List.append_assoc]
  rfl
section
variable {P : Program} {w : World} {K : PySem.W.Frag} {mg : Str → Option Value} {base : Heap}
/-! _law_long_right: slots 0:reel 1:items 2:counts 3:goal 4:index -/
abbrev s_law_long_right : Stmt := topS 68
theorem sc_law_long_right : FnScope ["reel", "items", "counts", "goal", "index"] ["reel"] (defScope s_law_long_right) := ⟨rfl, rfl, rfl, by decide +kernel, rfl, by decide +kernel, by decide +kernel⟩
def sp_law_long_right : Sp := fun vs H Q _ => ∃ (p : Addr), vs = [.ref p] ∧ Reel H p ∧ ∀ H', RB p H H' → Reel H' p → Q (.bl true) H'
theorem ok_law_long_right (D : Df K mg "_law_long_right" s_law_long_right) (T : Tx mg) (G_law_draw : Has P w K mg base 1 "_law_draw" ["reel", "many"] sp_law_draw) (G_nth_order : Has P w K mg base 6 "nth_order" ["counts", "state", "index"] sp_nth_order) (G_order_index : Has P w K mg base 6 "order_index" ["counts", "items"] sp_order_index)
    (G_orders_leading_to : Has P w K mg base 6 "orders_leading_to" ["counts", "state"] sp_orders_leading_to) (G_likeliest_state : Has P w K mg base 6 "likeliest_state" ["counts"] sp_likeliest_state) : Has P w K mg base 7 "_law_long_right" ["reel"] sp_law_long_right := by
  refine has_of D sc_law_long_right (fun _ _ _ _ _ _ us hl => match us, hl with | [_], _ => rfl) (fun vs H Q E h => ?_) (fun f cdv A₀ outer s₀ H vs Q E hr h => ?_)
  · obtain ⟨_, rfl, _⟩ := h
    rfl
  · obtain ⟨p, rfl, z, q⟩ := h
    refine ⟨_, (pss_cons (ps_par3 (i := 2) (j := 3) (l := 4) (by rfl) sc_law_long_right.nd rfl rfl rfl (by decide) (by decide) (by decide) rfl rfl rfl (pa_cons (pe_lst (pa_cons (pe_tup (pa_cons pe_str (pa_cons pe_int pa_nil))) (pa_cons (pe_tup (pa_cons pe_str (pa_cons pe_int pa_nil))) pa_nil))) (pa_cons (pe_tup (pa_cons pe_str (pa_cons pe_int pa_nil))) (pa_cons (pe_callH G_law_draw (hr.mono (by omega)) (by rfl) (pa_cons (pv 0) (pa_cons pe_int pa_nil))) pa_nil))) (by rfl))
    (pss_cons (ps_set (i := 1) sc_law_long_right.nd rfl (by first | exact Or.inl rfl | exact Or.inr rfl) (pe_callH G_nth_order (hr.mono (by omega)) (by rfl) (pa_cons (pv 2) (pa_cons (pv 3) (pa_cons (pv 4) pa_nil)))))
    (pss_cons (ps_if (PW.pt (pw_or (pt_cmpR (op_neD hr.units) (pv 1) (pe_op op_cat (pe_op op_cat (pe_op op_rep (pe_lst (pa_cons pe_str pa_nil)) (pe_op op_sub pe_int (pv 4))) (pe_lst (pa_cons pe_str pa_nil))) (pe_op op_rep (pe_lst (pa_cons pe_str pa_nil)) (pv 4))) (nomark _)) (pw_or1 (pt_cmpR op_ne (pe_callH G_order_index (hr.mono (by omega)) (by rfl) (pa_cons (pv 2) (pa_cons (pv 1) pa_nil))) (pv 4) (nomark _))))) (pss_one (ps_ret pe_bl)) pss_nil)
    (pss_one (ps_ret (pe_cmpR (op_eqD hr.units) (pe_lst (pa_cons (pe_callH G_orders_leading_to (hr.mono (by omega)) (by rfl) (pa_cons (pv 2) (pa_cons (pv 3) pa_nil))) (pa_cons (pe_callH G_likeliest_state (hr.mono (by omega)) (by rfl) (pa_cons (pv 2) pa_nil)) pa_nil))) (pe_lst (pa_cons pe_int (pa_cons (pe_tup (pa_cons (pv 3) (pa_cons pe_int pa_nil))) pa_nil))) (nomark _))))))), ?_⟩
    refine ⟨(by show 2 ≤ sizeLine; decide), fun u nu => ⟨(by show 2 ≤ sizeLine; decide), fun v nv => ⟨(by show 2 ≤ sizeLine; decide), fun L nL => ⟨(by show 2 ≤ sizeLine; decide), fun g ng => ?_⟩⟩⟩⟩
    have su := same_upd (o := .tup [.str "a", .int 1499]) nu
    have sv := same_upd (o := .tup [.str "b", .int 1]) nv
    have sL := same_upd (o := .lst [.ref u, .ref v]) nL
    have sg := same_upd (o := .tup [.str "a", .int 1498]) ng
    have s3 := sv.trans (sL.trans sg)
    have s4 := su.trans s3
    have z1 := z.same s4
    have hR : Runs (upd (upd (upd (upd H u (.tup [.str "a", .int 1499])) v (.tup [.str "b", .int 1])) L (.lst [.ref u, .ref v])) g (.tup [.str "a", .int 1498])) L lng := ⟨_, sg _ _ upd_same, .cons ⟨u, rfl, s3 _ _ upd_same⟩ (.cons ⟨v, rfl, (sL.trans sg) _ _ upd_same⟩ .nil)⟩
    have hg : StV (upd (upd (upd (upd H u (.tup [.str "a", .int 1499])) v (.tup [.str "b", .int 1])) L (.lst [.ref u, .ref v])) g (.tup [.str "a", .int 1498])) (.ref g) lngG := ⟨g, rfl, upd_same⟩
    have b0 : RB p H (upd (upd (upd (upd H u (.tup [.str "a", .int 1499])) v (.tup [.str "b", .int 1])) L (.lst [.ref u, .ref v])) g (.tup [.str "a", .int 1498])) := RB.of s4
    generalize upd (upd (upd (upd H u (.tup [.str "a", .int 1499])) v (.tup [.str "b", .int 1])) L (.lst [.ref u, .ref v])) g (.tup [.str "a", .int 1498]) = H1 at *
    refine ⟨_, rfl, p, 1500, rfl, z1, by decide, wide8 (by decide) (by decide), fun H2 r b2 z2 r0 r1 => ?_⟩
    obtain ⟨i, rfl⟩ := Int.eq_ofNat_of_zero_le r0
    have hi : i < 1500 := by
      have r1 : ((i : Nat) : Int) < 1500 := r1
      omega
    have hR2 := b2.runs z1 hR
    have hg2 := b2.st z1 hg
    have el := lng_at hi
    have sl := lng_st hi
    have okl := @ab_kind 1499 i
    have em := ab_map 1499 i
    refine ⟨_, _, _, rfl, _, rfl, _, rfl, _, rfl, .ref L, .ref g, lng, lngG, i, abL 1499 i, rfl, hR2.dress, lng_ok, by rw [lng_prod]; decide, hg2.dress, lng_so, el, fun H3 Lp s3 n3 h3 => ?_⟩
    have b3 := b0.trans (b2.trans (RB.of s3))
    have z3 := z2.same s3
    have hR3 := hR2.same s3
    have hg3 := hg2.same s3
    generalize abL 1499 i = l at *
    dsimp only
    refine if_gen (fun σ' H' => σ' = [some (.ref p), some (.ref Lp), some (.ref L), some (.ref g), some (natV i)] ∧ Same H3 H') (fun R hR' => ?_) (fun σ' H4 hO => ?_)
    · refine ⟨_, rfl, Nat.le_of_lt (small (by decide)), fun e1 n1 => ?_⟩
      have t1 := same_upd (o := .lst [.str "a"]) n1
      have h1 : (upd H3 e1 (.lst [.str "a"])) e1 = some (.lst [.str "a"]) := upd_same
      obtain ⟨K1, eK1⟩ : ∃ K1, upd H3 e1 (.lst [.str "a"]) = K1 := ⟨_, rfl⟩
      rw [eK1] at t1 h1 ⊢
      have ek : (1499 - (i : Int)).toNat = 1499 - i := by omega
      refine ⟨_, rfl, _, _, rfl, rfl, e1, 1499 - (i : Int), [.str "a"], rfl, rfl, h1, by omega, by omega, Nat.le_of_lt (small (by show 1 * (1499 - (i : Int)).toNat ≤ 1000000; omega)), ?_⟩
      rw [ek]
      intro e2 n2
      have t2 := same_upd (o := .lst (List.replicate (1499 - i) [V.str "a"]).flatten) n2
      have h2 : (upd K1 e2 (.lst (List.replicate (1499 - i) [V.str "a"]).flatten)) e2 = some (.lst (List.replicate (1499 - i) [V.str "a"]).flatten) := upd_same
      obtain ⟨K2, eK2⟩ : ∃ K2, upd K1 e2 (.lst (List.replicate (1499 - i) [V.str "a"]).flatten) = K2 := ⟨_, rfl⟩
      rw [eK2] at t2 h2
      show tLst _ _ (upd K1 e2 (.lst (List.replicate (1499 - i) [V.str "a"]).flatten)) _
      rw [eK2]
      refine ⟨Nat.le_of_lt (small (by decide)), fun e3 n3' => ?_⟩
      have t3 := same_upd (o := .lst [.str "b"]) n3'
      have h3' : (upd K2 e3 (.lst [.str "b"])) e3 = some (.lst [.str "b"]) := upd_same
      obtain ⟨K3, eK3⟩ : ∃ K3, upd K2 e3 (.lst [.str "b"]) = K3 := ⟨_, rfl⟩
      rw [eK3] at t3 h3'
      show rCat _ _ (upd K2 e3 (.lst [.str "b"])) _
      rw [eK3]
      have len1 : (List.replicate (1499 - i) [V.str "a"]).flatten.length = 1499 - i := by rw [rep_flat, List.length_replicate]
      have len2 : (List.replicate i [V.str "a"]).flatten.length = i := by rw [rep_flat, List.length_replicate]
      generalize (List.replicate (1499 - i) [V.str "a"]).flatten = as at *
      refine ⟨e2, e3, as, [.str "b"], rfl, rfl, t3 _ _ h2, h3', Nat.le_of_lt (small (by rw [len1]; show 1499 - i + 1 ≤ 1000000; omega)), fun e4 n4 => ?_⟩
      have t4 := same_upd (o := .lst (as ++ [V.str "b"])) n4
      have h4 : (upd K3 e4 (.lst (as ++ [V.str "b"]))) e4 = some (.lst (as ++ [V.str "b"])) := upd_same
      generalize upd K3 e4 (.lst (as ++ [V.str "b"])) = K4 at t4 h4 ⊢
      refine ⟨Nat.le_of_lt (small (by decide)), fun e5 n5 => ?_⟩
      have t5 := same_upd (o := .lst [.str "a"]) n5
      have h5 : (upd K4 e5 (.lst [.str "a"])) e5 = some (.lst [.str "a"]) := upd_same
      generalize upd K4 e5 (.lst [.str "a"]) = K5 at t5 h5 ⊢
      refine ⟨_, rfl, e5, (i : Int), [.str "a"], rfl, rfl, h5, by omega, by omega, Nat.le_of_lt (small (by show 1 * (i : Int).toNat ≤ 1000000; omega)), fun e6 n6 => ?_⟩
      rw [Int.toNat_natCast] at *
      generalize (List.replicate i [V.str "a"]).flatten = bs at *
      have t6 := same_upd (o := .lst bs) n6
      have h6 : (upd K5 e6 (.lst bs)) e6 = some (.lst bs) := upd_same
      generalize upd K5 e6 (.lst bs) = K6 at t6 h6 ⊢
      refine ⟨e4, e6, as ++ [V.str "b"], bs, rfl, rfl, t6 _ _ (t5 _ _ h4), h6, Nat.le_of_lt (small (by rw [List.length_append, len1, len2]; show 1499 - i + 1 + i ≤ 1000000; omega)), fun e7 n7 => ?_⟩
      rw [← em]
      have t7 := same_upd (o := .lst (l.map V.str)) n7
      have h7 : (upd K6 e7 (.lst (l.map V.str))) e7 = some (.lst (l.map V.str)) := upd_same
      have t17 := t1.trans (t2.trans (t3.trans (t4.trans (t5.trans (t6.trans t7)))))
      generalize upd K6 e7 (.lst (l.map V.str)) = K7 at t17 h7 ⊢
      refine ⟨.list (l.map PyData.str), .list (l.map PyData.str), .lst (.of (t17 _ _ h3)) (dp_strs _), .lst (.of h7) (dp_strs _), shaped_strs okl, shaped_strs okl, _, rfl, iteN (by rw [eqv_strs]; rfl) ?_⟩
      refine ⟨_, rfl, _, rfl, .ref L, Lp, lng, i, l, rfl, (hR3.same t17).dress, lng_ok, by rw [lng_prod]; decide, by rw [lng_len]; decide, .inl (t17 _ _ h3), by rw [sl]; exact el, by rw [sl]; exact lng_so, fun H8 s8 => ⟨_, rfl, rfl, _, rfl, iteN (by show (!decide (natV i = natV i)) = false; rw [decide_eq_true rfl]; rfl) (hR' _ _ ⟨rfl, t17.trans s8⟩)⟩⟩
    · obtain ⟨rfl, s4⟩ := hO
      have b4 := b3.trans (RB.of s4)
      have z4 := z3.same s4
      have hR4 := hR3.same s4
      have hg4 := hg3.same s4
      refine ⟨_, rfl, _, rfl, .ref L, .ref g, lng, lngG, rfl, hR4.dress, lng_ok, by rw [lng_prod]; decide, hg4.dress, lng_so, fun H5 s5 => ?_⟩
      rw [lng_num]
      refine ⟨_, rfl, .ref L, lng, rfl, (hR4.same s5).dress, lng_ok, by rw [lng_prod]; decide, fun H6 pt x st n s6 hpt hx bst => ?_⟩
      obtain ⟨rfl, rfl⟩ := lng_best bst
      refine ⟨by show 2 ≤ sizeLine; decide, fun l1 nl1 => ?_⟩
      have u1 := same_upd (o := .lst [natV 1500, .ref pt]) nl1
      have k1 : (upd H6 l1 (.lst [natV 1500, .ref pt])) l1 = some (.lst [natV 1500, .ref pt]) := upd_same
      generalize upd H6 l1 (.lst [natV 1500, .ref pt]) = H7 at u1 k1 ⊢
      refine ⟨_, rfl, by show 2 ≤ sizeLine; decide, fun l2 nl2 => ⟨by show 2 ≤ sizeLine; decide, fun l3 nl3 => ?_⟩⟩
      have u2 := same_upd (o := .tup [.ref g, .int 1500]) nl2
      have k2 : (upd H7 l2 (.tup [.ref g, .int 1500])) l2 = some (.tup [.ref g, .int 1500]) := upd_same
      generalize upd H7 l2 (.tup [.ref g, .int 1500]) = H8 at u2 k2 nl3 ⊢
      have u3 := same_upd (o := .lst [.int 1500, .ref l2]) nl3
      have k3 : (upd H8 l3 (.lst [.int 1500, .ref l2])) l3 = some (.lst [.int 1500, .ref l2]) := upd_same
      generalize upd H8 l3 (.lst [.int 1500, .ref l2]) = H9 at u3 k3 ⊢
      have u23 := u2.trans u3
      have u13 := u1.trans u23
      have s46 := s5.trans (s6.trans u13)
      have dd : SeqAt.shaped (.list [.int 1500, .tuple [dOt lngG, .int 1500]]) = true := by decide +kernel
      refine ⟨.list [.int 1500, .tuple [dOt lngG, .int 1500]], .list [.int 1500, .tuple [dOt lngG, .int 1500]], .lst (.of (u23 _ _ k1)) (.cons (.int _) (.cons (.tup (.of (u13 _ _ hpt)) (.cons (dp_o (hx.same u13)) (.cons (.int _) .nil))) .nil)), .lst (.of k3) (.cons (.int _) (.cons (.tup (.of (u3 _ _ k2)) (.cons (dp_o (hg4.same s46)) (.cons (.int _) .nil))) .nil)), dd, dd, ?_⟩
      have ee : PyData.eqv (.list [.int 1500, .tuple [dOt lngG, .int 1500]]) (.list [.int 1500, .tuple [dOt lngG, .int 1500]]) = true := by decide +kernel
      rw [ee]
      exact q _ (b4.trans (RB.of s46)) (z4.same s46)
end
end UP

set_option Elab.async false
set_option linter.all false
set_option maxRecDepth 100000
set_option maxHeartbeats 8000000
set_option pp.maxSteps 900
namespace UP
open PySem PySem.Spec PyProof.Rows L2
section
variable {P : Program} {w : World} {K : PySem.W.Frag} {mg : Str → Option Value} {base : Heap}
/-! law: slots 0:script 1:reel 2:k 3:counts 4:possible 5:goal 6:number 7:total 8:best 9:most 10:one -/
abbrev s_law : Stmt := topS 69
theorem sc_law : FnScope ["script", "reel", "k", "counts", "possible", "goal", "number", "total", "best", "most", "one"] ["script"] (defScope s_law) := ⟨rfl, rfl, rfl, by decide +kernel, rfl, by decide +kernel, by decide +kernel⟩
def sp_law (K : PySem.W.Frag) : Sp := fun vs H Q _ => ∃ (a : Addr) (ns : List Int), vs = [.ref a] ∧ SqL K H a (ns.map V.int) ∧ ns.length ≤ 63 ∧ ∀ H', Q (.bl true) H'
theorem fn_law {f : Addr} {fd : FuncData} (F : Fun K "law" "law" s_law f fd) (T : Tx mg)
    (G_law_reel : Has P w K mg base 1 "_law_reel" ["script"] (sp_law_reel K)) (G_law_draw : Has P w K mg base 1 "_law_draw" ["reel", "many"] sp_law_draw)
    (G_law_large : Has P w K mg base 3 "_law_large" ["reel"] sp_law_large) (G_law_possible : Has P w K mg base 8 "_law_possible" ["counts"] sp_law_possible) (G_law_multinomial : Has P w K mg base 1 "_law_multinomial" ["counts"] sp_law_multinomial)
    (G_orders_leading_to : Has P w K mg base 6 "orders_leading_to" ["counts", "state"] sp_orders_leading_to) (G_likeliest_state : Has P w K mg base 6 "likeliest_state" ["counts"] sp_likeliest_state) (G_order_count : Has P w K mg base 6 "order_count" ["counts"] sp_order_count)
    (G_law_numbered_right : Has P w K mg base 7 "_law_numbered_right" ["reel", "counts", "goal", "many"] sp_law_numbered_right) (G_law_last_right : Has P w K mg base 7 "_law_last_right" ["counts", "goal", "number"] sp_law_last_right) (G_law_long_right : Has P w K mg base 7 "_law_long_right" ["reel"] sp_law_long_right) :
    FnC P w K mg base f fd ["script"] (sp_law K) := by
  refine fnC_of F sc_law (fun vs H Q E h => ?_) (fun cdv outer s H vs Q E hr h => ?_)
  · obtain ⟨_, _, rfl, _⟩ := h
    rfl
  · obtain ⟨a, ns, rfl, hS, l63, q⟩ := h
    have hr := Room.deeper (show Room (9 + 1) callerA from ⟨rfl, by decide, by decide⟩) (envOfC "law" (defScope s_law) s.heap.objs.size f cdv)
    refine ⟨_, (pss_cons (ps_set (i := 1) sc_law.nd rfl (by first | exact Or.inl rfl | exact Or.inr rfl) (pe_callH G_law_reel (hr.mono (by omega)) (by rfl) (pa_cons (pv 0) pa_nil)))
    (pss_cons (ps_for PassesOwn.never rfl (pi_range1 (by rfl) T.n_range (pa_cons (pe_op op_add pe_int (pe_callB (call_min2 rfl) (by rfl) T.n_min (by decide +kernel) (pa_cons (pe_callB call_len_seq (by rfl) T.n_len (by decide +kernel) (pa_cons (pv 0) pa_nil)) (pa_cons pe_int pa_nil)))) pa_nil)) (pg_name (i := 2) sc_law.nd rfl (by first | exact Or.inl rfl | exact Or.inr rfl))
      (pss_cons (ps_set (i := 3) sc_law.nd rfl (by first | exact Or.inl rfl | exact Or.inr rfl) (pe_callH G_law_large (hr.mono (by omega)) (by rfl) (pa_cons (pv 1) pa_nil)))
    (pss_cons (ps_set (i := 4) sc_law.nd rfl (by first | exact Or.inl rfl | exact Or.inr rfl) (pe_callH G_law_possible (hr.mono (by omega)) (by rfl) (pa_cons (pv 3) pa_nil)))
    (pss_cons (ps_set (i := 5) sc_law.nd rfl (by first | exact Or.inl rfl | exact Or.inr rfl) (pe_ix ix_list (pv 4) (pe_callH G_law_draw (hr.mono (by omega)) (by rfl) (pa_cons (pv 1) (pa_cons (pe_callB call_len_seq (by rfl) T.n_len (by decide +kernel) (pa_cons (pv 4) pa_nil)) pa_nil))) (fun _ _ => rfl)))
    (pss_cons (ps_set (i := 6) sc_law.nd rfl (by first | exact Or.inl rfl | exact Or.inr rfl) (pe_callH G_orders_leading_to (hr.mono (by omega)) (by rfl) (pa_cons (pv 3) (pa_cons (pv 5) pa_nil))))
    (pss_cons (ps_set (i := 7) sc_law.nd rfl (by first | exact Or.inl rfl | exact Or.inr rfl) (pe_callH G_law_multinomial (hr.mono (by omega)) (by rfl) (pa_cons (pv 3) pa_nil)))
    (pss_cons (ps_asg (pe_callH G_likeliest_state (hr.mono (by omega)) (by rfl) (pa_cons (pv 3) pa_nil)) (pg_tup rfl (pgs_cons (pg_name (i := 8) sc_law.nd rfl (by first | exact Or.inl rfl | exact Or.inr rfl)) (pgs_cons (pg_name (i := 9) sc_law.nd rfl (by first | exact Or.inl rfl | exact Or.inr rfl)) pgs_nil))))
    (pss_cons (ps_if (PW.pt (pw_or (pt_cmpR op_ne (pe_callH G_order_count (hr.mono (by omega)) (by rfl) (pa_cons (pv 3) pa_nil)) (pv 7) (nomark _)) (pw_or (pt_not (pt_chain op_le op_le pe_int (pv 6) (pv 9))) (pw_or1 (pt_cmpR (op_notInD (room65 hr)) (pv 8) (pv 4) (by with_unfolding_all rfl)))))) (pss_one (ps_ret pe_bl)) pss_nil)
    (pss_cons (ps_if (PW.pt (pw_and (pt_cmpR op_lt (pe_callB call_len_seq (by rfl) T.n_len (by decide +kernel) (pa_cons (pv 4) pa_nil)) pe_int (nomark _)) (pw_and1 (pt_cmpR op_ne (pe_callB (cr_sum rfl) (by rfl) T.n_sum (by decide +kernel) (pa_cons (pe_lc (own := [("one", 10)]) rfl sc_law.nd (pi_list (pv 4)) (blkOk_by (N := ["script", "reel", "k", "counts", "possible", "goal", "number", "total", "best", "most", "one"]) (sc := defScope s_law) (by decide +kernel)) (fun _ _ _ _ _ => (pg_name (i := 10) sc_law.nd rfl (by first | exact Or.inl rfl | exact Or.inr rfl))) (fun _ _ _ _ _ => pts_nil) (fun _ _ _ _ _ => (pe_callH G_orders_leading_to (hr.mono (by omega)) (by rfl) (pa_cons (pv 3) (pa_cons (pv 10) pa_nil))))) pa_nil)) (pv 7) (nomark _))))) (pss_one (ps_ret pe_bl)) pss_nil)
    (pss_cons (ps_if (PW.pt (pw_and (pt_cmpR op_lt (pe_callB call_len_seq (by rfl) T.n_len (by decide +kernel) (pa_cons (pv 3) pa_nil)) pe_int (nomark _)) (pw_and1 (PW.pt (pw_or (pt_cmpR op_ne (pe_callB call_len_seq (by rfl) T.n_len (by decide +kernel) (pa_cons (pv 4) pa_nil)) pe_int (nomark _)) (pw_or1 (pt_cmpR op_ne (pv 6) (pv 7) (nomark _)))))))) (pss_one (ps_ret pe_bl)) pss_nil)
    (pss_cons (ps_if (PW.pt (pw_or (PW.pt (pw_and (pt_cmpR op_eq (pe_callB call_len_seq (by rfl) T.n_len (by decide +kernel) (pa_cons (pv 3) pa_nil)) pe_int (nomark _)) (pw_and1 (pt_cmpR op_ne (pe_op op_mulW (pv 6) pe_int) (pv 7) (nomark _))))) (pw_or1 (pt_cmpR op_ne (pe_callH G_orders_leading_to (hr.mono (by omega)) (by rfl) (pa_cons (pv 3) (pa_cons (pv 8) pa_nil))) (pv 9) (nomark _))))) (pss_one (ps_ret pe_bl)) pss_nil)
    (pss_cons (ps_if (pt_not (pt_val (pe_callH G_law_numbered_right (hr.mono (by omega)) (by rfl) (pa_cons (pv 1) (pa_cons (pv 3) (pa_cons (pv 5) (pa_cons (pv 6) pa_nil))))))) (pss_one (ps_ret pe_bl)) pss_nil)
    (pss_one (ps_if (PW.pt (pw_and (pt_cmpR op_eq (pv 2) pe_int (nomark _)) (pw_and (pt_cmpR op_lt (pe_callB call_len_seq (by rfl) T.n_len (by decide +kernel) (pa_cons (pv 3) pa_nil)) pe_int (nomark _)) (pw_and1 (pt_not (pt_val (pe_callH G_law_last_right (hr.mono (by omega)) (by rfl) (pa_cons (pv 3) (pa_cons (pv 5) (pa_cons (pv 6) pa_nil)))))))))) (pss_one (ps_ret pe_bl)) pss_nil))))))))))))))
    (pss_one (ps_ret (pe_callH G_law_long_right (hr.mono (by omega)) (by rfl) (pa_cons (pv 1) pa_nil)))))), ?_⟩
    refine ⟨_, rfl, a, ns, rfl, hS, fun H1 p s1 np z1 => ?_⟩
    refine ⟨_, rfl, a, _, rfl, .inl (s1.seq hS), _, _, rfl, _, _, rfl, rfl, _, rfl, ?_, ?_, for_range (lo := 0) (n := _) (fun i σ H' => ∃ y2 y3 y4 y5 y6 y7 y8 y9 y10, σ = [some (.ref a), some (.ref p), y2, y3, y4, y5, y6, y7, y8, y9, y10] ∧ Reel H' p)
      ⟨none, none, none, none, none, none, none, none, none, rfl, z1⟩ (fun i σ H2 hi hP => ?_) (fun σ H2 hP => ?_)⟩
    · rw [List.length_map]
      split <;> omega
    · rw [List.length_map]
      split <;> omega
    · obtain ⟨y2, y3, y4, y5, y6, y7, y8, y9, y10, rfl, z2⟩ := hP
      clear z1
      obtain ⟨kv, ekv⟩ : ∃ kv : Int, 0 + ((i : Nat) : Int) = kv := ⟨_, rfl⟩
      rw [ekv]
      refine ⟨_, rfl, p, rfl, z2, fun H3 A cs b3 z3 nA rA B => ?_⟩
      have ok := B.ok
      have okc := okc_of ok
      have l12 := ok.1
      have few := B.few
      have b15 : ∀ r ∈ cs, r.2 ≤ 1500 := fun r hr => by
        have := le_lenX cs okc.pos r hr
        have := B.len
        omega
      refine ⟨_, rfl, A, cs, rfl, rA, ok, b15, fun H4 Pp xs s4 nP hP hx => ?_⟩
      have z4 := z3.same s4
      have rA4 := rA.same s4
      have lx : xs.length = (posb cs).length := Paired.len hx
      have nex := posb_ne ok
      have lpos : 0 < xs.length := by
        rw [lx]
        exact List.length_pos_iff.mpr nex
      have lbd : xs.length ≤ 20000 := by
        rw [lx]
        have := posbL_len ok b15 cs fun r h => h
        show (posbL cs cs).length ≤ 20000
        omega
      refine ⟨_, rfl, _, rfl, _, rfl, Pp, xs, rfl, .inl (.of hP), p, _, rfl, z4, by omega, wide8 (by omega) (by omega), fun H5 r b5 z5 r0 r1 => ?_⟩
      have r1 : r < (xs.length : Int) := r1
      have neP := noint_st z4 hP hx
      have hP5 := b5.but _ _ neP hP
      have hx5 : Paired (StV H5) xs (posb cs) := Paired.imp (fun _ _ h => b5.st z4 h) hx
      have rA5 := b5.runs z4 rA4
      obtain ⟨v, ev⟩ : ∃ v, xs[r.toNat]? = some v := ⟨_, List.getElem?_eq_getElem (by omega)⟩
      obtain ⟨g, eg, hv⟩ := Paired.at hx5 ev
      have mg' : g ∈ posb cs := List.mem_of_getElem? eg
      have so := posb_ok ok mg'
      have po := posb_pos ok mg'
      refine ⟨Pp, xs, r, v, rfl, rfl, .of hP5, atI_ofR (by omega) ev, ?_⟩
      refine ⟨_, rfl, _, rfl, .ref A, v, cs, g, rfl, rA5.dress, ok, few, hv.dress, so, fun H6 s6 => ?_⟩
      refine ⟨_, rfl, A, cs, rfl, rA5.same s6, ok, few, fun H7 s7 => ?_⟩
      have s57 := s6.trans s7
      refine ⟨_, rfl, .ref A, cs, rfl, (rA5.same s57).dress, ok, few, fun H8 pt vb st n s8 hpt hvb bst => ?_⟩
      have s58 := s57.trans s8
      refine ⟨pt, _, rfl, .of hpt, rfl, _, _, rfl, _, _, rfl, rfl, ?_⟩
      have hP8 := s58 _ _ hP5
      have hx8 : Paired (StV H8) xs (posb cs) := Paired.imp (fun _ _ h => h.same s58) hx5
      have rA8 := rA5.same s58
      have hv8 := hv.same s58
      have z8 := z5.same s58
      have mst : st ∈ posb cs := (posb_mem ok st).mpr (List.count_pos_iff.mp (by show 0 < numE cs st; rw [bst.num]; exact bst.pos))
      have sob := posb_ok ok mst
      have okS : ∀ e ∈ posb cs, StOk e := fun e he => posb_ok ok he
      clear hx b5 b3 hP z2 z3
      dsimp only
      have neN : ∀ k : Nat, (!decide (natV k = natV k)) = false := fun k => by rw [decide_eq_true rfl]; rfl
      refine if_gen (fun σ' H' => ∃ y10, σ' = [some (.ref a), some (.ref p), some (.int kv), some (.ref A), some (.ref Pp), some v, some (natV (numE cs g)), some (natV (mulN 0 cs)), some vb, some (natV n), y10] ∧ Same H8 H') (fun R hR' => ?_) (fun σ' H9 hO => ?_)
      · refine ⟨_, rfl, .ref A, cs, rfl, rA8.dress, ok, few, fun H9 s9 => ?_⟩
        refine ⟨_, rfl, rfl, _, rfl, iteN (neN _) ?_⟩
        refine ⟨_, rfl, _, _, rfl, rfl, _, rfl, iteP (decide_eq_true (by show (1 : Int) ≤ (numE cs g : Nat); omega)) ⟨_, rfl, _, _, rfl, rfl, _, rfl, iteN (by rw [decide_eq_true (by have := bst.top g; show ((numE cs g : Nat) : Int) ≤ (n : Nat); omega)]; rfl) ?_⟩⟩
        exact ⟨_, rfl, _, rfl, dOt st, (posb cs).map dOt, dp_o (hvb.same s9), .lst (.of (s9 _ _ hP8)) (dp_all_st (Paired.imp (fun _ _ h => h.same s9) hx8)), shaped_o sob, shaped_stX okS, _, rfl, iteN (by rw [any_st, decide_eq_true mst]; rfl) (hR' _ _ ⟨_, rfl, s9⟩)⟩
      obtain ⟨y11, rfl, s9⟩ := hO
      have hP9 := s9 _ _ hP8
      have hx9 : Paired (StV H9) xs (posb cs) := Paired.imp (fun _ _ h => h.same s9) hx8
      have rA9 := rA8.same s9
      obtain ⟨xs3, hA9, hp9⟩ := id rA9
      have lA : xs3.length = cs.length := Paired.len hp9
      refine if_gen (fun σ' H' => ∃ y10, σ' = [some (.ref a), some (.ref p), some (.int kv), some (.ref A), some (.ref Pp), some v, some (natV (numE cs g)), some (natV (mulN 0 cs)), some vb, some (natV n), y10] ∧ Same H9 H') (fun R hR' => ?_) (fun σ' H10 hO => ?_)
      · refine ⟨_, rfl, Pp, xs, rfl, .inl (.of hP9), _, _, rfl, rfl, _, rfl, ite2 (fun _ => ?_) (fun _ => hR' _ _ ⟨_, rfl, Same.refl _⟩)⟩
        refine ⟨_, rfl, Pp, rfl, ⟨xs, .of hP9⟩, fun M nM => lc_list (K := K) (a := Pp) (xs := xs) (fun j H' => Same H9 H' ∧ H' M = some (.lst ((((posb cs).take j).map fun s => numE cs s).map natV))) ⟨same_upd nM, upd_same⟩ (fun j H' _ pj => .of (pj.1 _ _ hP9)) (fun j x H10 ex hP => ?_) (fun H10 hP => ?_)⟩
        · obtain ⟨sm, hM⟩ := hP
          obtain ⟨e, ee, hxe⟩ := Paired.at hx9 ex
          have hj : j < xs.length := (List.getElem?_eq_some_iff.mp ex).1
          refine ⟨rfl, yesT ⟨_, rfl, _, rfl, .ref A, x, cs, e, rfl, (rA9.same sm).dress, ok, few, (hxe.same sm).dress, okS e (List.mem_of_getElem? ee), fun H11 s11 => ⟨_, s11 _ _ hM, ?_, same_grow nM (sm.trans s11), ?_⟩⟩⟩
          · simp only [List.length_map, List.length_take]
            exact small (by omega)
          · rw [upd_same, take_snoc ee, List.map_append, List.map_append]
            rfl
        · obtain ⟨sm, hM⟩ := hP
          rw [lx, List.take_length] at hM
          have e1 : ((posb cs).map fun s => numE cs s).map natV = (((posb cs).map fun s => numE cs s).map fun n : Nat => (n : Int)).map V.int := by
            simp only [List.map_map]
            rfl
          rw [e1] at hM
          refine ⟨M, _, rfl, .of hM, ?_⟩
          rw [sum_nat, posb_sum ok]
          exact ⟨_, rfl, rfl, _, rfl, iteN (neN _) (hR' _ _ ⟨_, rfl, sm⟩)⟩
      obtain ⟨y12, rfl, s10⟩ := hO
      have s910 := s9.trans s10
      refine if_gen (fun σ' H' => ∃ y10, σ' = [some (.ref a), some (.ref p), some (.int kv), some (.ref A), some (.ref Pp), some v, some (natV (numE cs g)), some (natV (mulN 0 cs)), some vb, some (natV n), y10] ∧ Same H10 H') (fun R hR' => ?_) (fun σ' H11 hO => ?_)
      · refine ⟨_, rfl, A, xs3, rfl, .inl (.of (s10 _ _ hA9)), _, _, rfl, rfl, _, rfl, ite2 (fun c => ?_) (fun _ => hR' _ _ ⟨_, rfl, Same.refl _⟩)⟩
        have c : ((xs3.length : Nat) : Int) < 3 := of_decide_eq_true c
        have l2 : cs.length ≤ 2 := by omega
        have p1 := posb_one ok B.ne l2
        have lx1 : xs.length = 1 := by rw [lx, p1]; rfl
        have g1 : g = dfR cs := by
          rw [p1] at mg'
          exact List.mem_singleton.mp mg'
        refine ⟨_, rfl, Pp, xs, rfl, .inl (.of (s10 _ _ hP9)), rfl, _, rfl, iteN (by rw [lx1]; rfl) ?_⟩
        refine ⟨_, rfl, _, rfl, rfl, _, rfl, iteN ?_ (hR' _ _ ⟨_, rfl, Same.refl _⟩)⟩
        rw [g1, num_one ok B.ne l2]
        exact neN _
      obtain ⟨y13, rfl, s11⟩ := hO
      have s811 := s910.trans s11
      have rA11 := rA8.same s811
      have hA11 := s11 _ _ (s10 _ _ hA9)
      refine if_gen (fun σ' H' => ∃ y10, σ' = [some (.ref a), some (.ref p), some (.int kv), some (.ref A), some (.ref Pp), some v, some (natV (numE cs g)), some (natV (mulN 0 cs)), some vb, some (natV n), y10] ∧ Same H11 H') (fun R hR' => ?_) (fun σ' H12 hO => ?_)
      · refine ifS_orH (b1 := false) (b2 := false) (Same H11) (fun R hR => ?_) (fun R H' s' hR => ?_) (fun h => by cases h) (fun _ H' s' => hR' _ _ ⟨_, rfl, s'⟩)
        · refine ⟨_, rfl, A, xs3, rfl, .inl (.of hA11), rfl, _, rfl, ?_⟩
          by_cases c : cs.length = 11
          · refine iteP (by rw [lA, c]; rfl) ?_
            have ones : ∀ r ∈ cs, r.2 = 1 := by
              rcases B.kds with h | h
              · omega
              · exact h.2
            have e11 := posb_ones ok ones (by rw [c]) mg'
            rw [c] at e11
            refine ⟨_, rfl, _, _, rfl, rfl, wide_mul (a := 3601) (b := 5) (by rw [Int.natAbs_natCast]; exact num_bd okc B.len g) (by decide) (by decide) (by decide) (by decide), _, rfl, rfl, _, rfl, ?_⟩
            have e12 : V.int (((numE cs g : Nat) : Int) * 11) = natV (mulN 0 cs) := by
              unfold natV
              rw [← e11, Int.natCast_mul]
              rfl
            show R (!decide (V.int (((numE cs g : Nat) : Int) * 11) = natV (mulN 0 cs))) H11
            rw [e12, neN]
            exact hR _ (Same.refl _)
          · exact iteN (decide_eq_false fun h => c (by have := V.int.inj h; omega)) (hR _ (Same.refl _))
        · refine ⟨_, rfl, _, rfl, .ref A, vb, cs, st, rfl, (rA11.same s').dress, ok, few, (hvb.same (s811.trans s')).dress, sob, fun H13 s13 => ⟨_, rfl, rfl, _, rfl, ?_⟩⟩
          rw [bst.num, neN]
          exact hR _ (s'.trans s13)
      obtain ⟨y14, rfl, s12⟩ := hO
      have s812 := s811.trans s12
      have rA12 := rA8.same s812
      have hv12 := hv8.same s812
      have z12 := z8.same s812
      have hA12 := s12 _ _ hA11
      refine if_gen (fun σ' H' => ∃ y10, σ' = [some (.ref a), some (.ref p), some (.int kv), some (.ref A), some (.ref Pp), some v, some (natV (numE cs g)), some (natV (mulN 0 cs)), some vb, some (natV n), y10] ∧ RB p H12 H' ∧ Reel H' p) (fun R hR' => ?_) (fun σ' H13 hO => ?_)
      · exact ⟨_, rfl, _, rfl, _, rfl, _, rfl, p, A, v, cs, g, rfl, z12, rA12, B, hv12, so, po, fun H13 b13 z13 => ⟨_, rfl, iteN rfl (hR' _ _ ⟨_, rfl, b13, z13⟩)⟩⟩
      obtain ⟨y15, rfl, b13, z13⟩ := hO
      have rA13 := b13.runs z12 rA12
      have hv13 := b13.st z12 hv12
      obtain ⟨xs4, hA13, hp13⟩ := id rA13
      refine ⟨_, rfl, rfl, _, rfl, ite2 (fun _ => ?_) (fun _ => ?_)⟩
      · refine ⟨_, rfl, A, xs4, rfl, .inl (.of hA13), _, _, rfl, rfl, _, rfl, ite2 (fun _ => ?_) (fun _ => ?_)⟩
        · exact ⟨_, rfl, _, rfl, _, rfl, A, v, cs, g, rfl, rA13, ok, B.ne, few, hv13, so, fun H14 s14 => ⟨_, rfl, iteN rfl ⟨_, _, _, _, _, _, _, _, _, rfl, z13.same s14⟩⟩⟩
        · exact ⟨_, _, _, _, _, _, _, _, _, rfl, z13⟩
      · exact ⟨_, _, _, _, _, _, _, _, _, rfl, z13⟩
    · obtain ⟨y2, y3, y4, y5, y6, y7, y8, y9, y10, rfl, z2⟩ := hP
      exact ⟨_, rfl, p, rfl, z2, fun H3 b3 z3 => q _⟩
end
end UP

set_option Elab.async false
set_option linter.all false
set_option maxRecDepth 100000
set_option maxHeartbeats 4000000
namespace UP
open PySem PySem.Spec PyProof.Rows L2
section
variable {K : PySem.W.Frag} {h : Heap} {mg : Str → Option Value}
theorem df_mk {x : Str} {st : Stmt} {f : Addr} {od an : Option Addr} {sl : Array (Option Value)} {oc kV dc pm cd ct : Value} (X : K.In h) (G : h.Ns mainGlobals mg) (a : PySem.W.nsIn K mainGlobals x = some (some (.ref f)))
    (l : K.lookup f = some ⟨oc, od, .func (PySem.W.fnOf x x (defArgs st) (defBody st) (defScope st) .none kV dc pm an cd ct), sl⟩) (c : PySem.W.codeIn K cd x = true) (k : PySem.W.keepIn K (.ref f) = true) : Df K mg x st :=
  ⟨f, _, PySem.W.mg_of X G a, fun_mk l c k⟩
theorem dfd_mk {x : Str} {st : Stmt} {f T : Addr} {od an od2 : Option Addr} {sl sl2 : Array (Option Value)} {n2 : Nat} {oc kV dc pm cd ct oc2 : Value} (X : K.In h) (G : h.Ns mainGlobals mg) (a : PySem.W.nsIn K mainGlobals x = some (some (.ref f)))
    (l : K.lookup f = some ⟨oc, od, .func (PySem.W.fnOf x x (defArgs st) (defBody st) (defScope st) (.ref T) kV dc pm an cd ct), sl⟩) (t : K.lookup T = some ⟨oc2, od2, .seq #[.none] n2, sl2⟩) (c : PySem.W.codeIn K cd x = true) (k : PySem.W.keepIn K (.ref f) = true) : DfD K mg x st [.non] :=
  ⟨f, _, PySem.W.mg_of X G a, ⟨⟨oc, od, _, kV, dc, pm, an, cd, ct, sl, rfl, l, c, .inr ⟨(by intro z; cases z), T, _, [.none], n2, rfl, t, rfl, .cons rfl .nil⟩, .inl rfl⟩, k⟩⟩
theorem cst_mk {x : Str} {i : Int} {t : Tok} (X : K.In h) (G : h.Ns mainGlobals mg) (a : PySem.W.nsIn K mainGlobals x = some (some (.int i t))) : ∃ t, mg x = some (.int i t) := ⟨t, PySem.W.mg_of X G a⟩
end
/-- all that the top has written -/
structure Top (K : PySem.W.Frag) (mg : Str → Option Value) : Prop where
  T : Tx mg
  d_is_whole : Df K mg "is_whole" s_is_whole
  d_is_within : Df K mg "is_within" s_is_within
  d_is_listed : Df K mg "is_listed" s_is_listed
  d_is_couple : Df K mg "is_couple" s_is_couple
  d_is_kind : Df K mg "is_kind" s_is_kind
  d_is_run : Df K mg "is_run" s_is_run
  d_is_state : Df K mg "is_state" s_is_state
  d_check_kind : Df K mg "check_kind" s_check_kind
  d_checked_state : Df K mg "checked_state" s_checked_state
  d_length_of : Df K mg "length_of" s_length_of
  d_product_of : Df K mg "product_of" s_product_of
  d_waiting_number : Df K mg "waiting_number" s_waiting_number
  d_kind_of : Df K mg "kind_of" s_kind_of
  d_state_with : Df K mg "state_with" s_state_with
  d_state_after_run : Df K mg "state_after_run" s_state_after_run
  d_is_counts : Df K mg "is_counts" s_is_counts
  d_checked_counts : Df K mg "checked_counts" s_checked_counts
  d_counts_without : Df K mg "counts_without" s_counts_without
  d_majority_in : Df K mg "majority_in" s_majority_in
  d_reasons_in : Df K mg "reasons_in" s_reasons_in
  d_range_in : Df K mg "range_in" s_range_in
  d_can_remain : Df K mg "can_remain" s_can_remain
  d_reason_against : Df K mg "reason_against" s_reason_against
  d_remaining_range : Df K mg "remaining_range" s_remaining_range
  d_check_product : Df K mg "check_product" s_check_product
  d_steps_of : Df K mg "steps_of" s_steps_of
  d_arrivals_at : Df K mg "arrivals_at" s_arrivals_at
  d_add_orders : Df K mg "add_orders" s_add_orders
  d_ways_to : Df K mg "ways_to" s_ways_to
  d_ways_from : Df K mg "ways_from" s_ways_from
  d_choices_at : Df K mg "choices_at" s_choices_at
  d_is_order : Df K mg "is_order" s_is_order
  d_order_count : Df K mg "order_count" s_order_count
  d_orders_leading_to : Df K mg "orders_leading_to" s_orders_leading_to
  d_nth_order : Df K mg "nth_order" s_nth_order
  d_order_index : Df K mg "order_index" s_order_index
  d_rank_of : Df K mg "rank_of" s_rank_of
  d_likeliest_state : Df K mg "likeliest_state" s_likeliest_state
  d_law_reel : Df K mg "_law_reel" s_law_reel
  d_law_draw : Df K mg "_law_draw" s_law_draw
  d_law_names : Df K mg "_law_names" s_law_names
  d_law_step : Df K mg "_law_step" s_law_step
  d_law_of : Df K mg "_law_of" s_law_of
  d_law_large : Df K mg "_law_large" s_law_large
  d_law_multinomial : Df K mg "_law_multinomial" s_law_multinomial
  d_law_possible : Df K mg "_law_possible" s_law_possible
  d_law_numbered_right : Df K mg "_law_numbered_right" s_law_numbered_right
  d_law_last_right : Df K mg "_law_last_right" s_law_last_right
  d_law_long_right : Df K mg "_law_long_right" s_law_long_right
theorem Top.law {P : Program} {w : World} {K : PySem.W.Frag} {mg : Str → Option Value} (Y : Top K mg) {f : Addr} {fd : FuncData} (F : Fun K "law" "law" s_law f fd) (base : Heap) : FnC P w K mg base f fd ["script"] (sp_law K) := by
  have T := Y.T
  have g_is_whole := ok_is_whole (P := P) (w := w) (base := base) Y.d_is_whole T
  have g_is_within := ok_is_within (P := P) (w := w) (base := base) Y.d_is_within g_is_whole
  have g_is_listed := ok_is_listed (P := P) (w := w) (base := base) Y.d_is_listed T
  have g_is_couple := ok_is_couple (P := P) (w := w) (base := base) Y.d_is_couple T
  have g_is_kind := ok_is_kind (P := P) (w := w) (base := base) Y.d_is_kind T
  have g_is_run := ok_is_run (P := P) (w := w) (base := base) Y.d_is_run T g_is_couple g_is_kind g_is_within
  have g_is_state := ok_is_state (P := P) (w := w) (base := base) Y.d_is_state T g_is_couple g_is_kind g_is_whole
  have g_checked_state := ok_checked_state (P := P) (w := w) (base := base) Y.d_checked_state T g_is_state
  have g_length_of := ok_length_of (P := P) (w := w) (base := base) Y.d_length_of T
  have g_waiting_number := ok_waiting_number (P := P) (w := w) (base := base) Y.d_waiting_number
  have g_state_with := ok_state_with (P := P) (w := w) (base := base) Y.d_state_with
  have g_state_after_run := ok_state_after_run (P := P) (w := w) (base := base) Y.d_state_after_run g_waiting_number g_state_with
  have g_law_draw := ok_law_draw (P := P) (w := w) (base := base) Y.d_law_draw T
  have g_law_reel := ok_law_reel (P := P) (w := w) (base := base) Y.d_law_reel T
  have g_law_names := ok_law_names (P := P) (w := w) (base := base) Y.d_law_names T g_law_draw
  have g_law_step := ok_law_step (P := P) (w := w) (base := base) Y.d_law_step
  have g_kind_of := ok_kind_of (P := P) (w := w) (base := base) Y.d_kind_of
  have g_law_of := ok_law_of (P := P) (w := w) (base := base) Y.d_law_of
  have g_is_counts := ok_is_counts (P := P) (w := w) (base := base) Y.d_is_counts T g_is_listed g_is_run
  have g_checked_counts := ok_checked_counts (P := P) (w := w) (base := base) Y.d_checked_counts T g_is_counts
  have g_counts_without := ok_counts_without (P := P) (w := w) (base := base) Y.d_counts_without g_kind_of g_waiting_number
  have g_majority_in := ok_majority_in (P := P) (w := w) (base := base) Y.d_majority_in g_length_of
  have g_reasons_in := ok_reasons_in (P := P) (w := w) (base := base) Y.d_reasons_in T g_counts_without g_length_of g_kind_of g_waiting_number g_majority_in
  have g_reason_against := ok_reason_against (P := P) (w := w) (base := base) Y.d_reason_against T g_checked_counts g_checked_state g_reasons_in
  have g_can_remain := ok_can_remain (P := P) (w := w) (base := base) Y.d_can_remain g_reason_against
  have g_range_in := ok_range_in (P := P) (w := w) (base := base) Y.d_range_in T g_length_of
  have g_check_kind := ok_check_kind (P := P) (w := w) (base := base) Y.d_check_kind g_is_kind
  have g_remaining_range := ok_remaining_range (P := P) (w := w) (base := base) Y.d_remaining_range g_checked_counts g_check_kind g_range_in
  have g_product_of := ok_product_of (P := P) (w := w) (base := base) Y.d_product_of
  have g_check_product := ok_check_product (P := P) (w := w) (base := base) Y.d_check_product T g_product_of
  have g_steps_of := ok_steps_of (P := P) (w := w) (base := base) Y.d_steps_of T
  have g_arrivals_at := ok_arrivals_at (P := P) (w := w) (base := base) Y.d_arrivals_at T
  have g_add_orders := ok_add_orders (P := P) (w := w) (base := base) Y.d_add_orders
  have g_ways_to := ok_ways_to (P := P) (w := w) (base := base) Y.d_ways_to T g_steps_of g_product_of g_add_orders g_arrivals_at g_state_after_run
  have g_orders_leading_to := ok_orders_leading_to (P := P) (w := w) (base := base) Y.d_orders_leading_to T g_checked_counts g_checked_state g_check_product g_ways_to
  have g_order_count := ok_order_count (P := P) (w := w) (base := base) Y.d_order_count T g_checked_counts g_check_product
  have g_ways_from := ok_ways_from (P := P) (w := w) (base := base) Y.d_ways_from T g_steps_of g_ways_to g_arrivals_at g_state_after_run
  have g_choices_at := ok_choices_at (P := P) (w := w) (base := base) Y.d_choices_at T g_arrivals_at g_state_after_run
  have g_nth_order := ok_nth_order (P := P) (w := w) (base := base) Y.d_nth_order T g_checked_counts g_checked_state g_check_product g_ways_from g_is_within g_steps_of g_length_of g_choices_at
  have g_is_order := ok_is_order (P := P) (w := w) (base := base) Y.d_is_order T g_is_listed g_length_of g_is_kind
  have g_order_index := ok_order_index (P := P) (w := w) (base := base) Y.d_order_index T g_checked_counts g_check_product g_is_order g_state_after_run g_ways_from g_steps_of g_choices_at
  have g_rank_of := ok_rank_of (P := P) (w := w) (base := base) Y.d_rank_of T
  have g_likeliest_state := ok_likeliest_state (P := P) (w := w) (base := base) Y.d_likeliest_state T g_checked_counts g_check_product g_rank_of g_ways_to
  have g_law_large := ok_law_large (P := P) (w := w) (base := base) Y.d_law_large T g_law_draw g_law_names
  have g_law_multinomial := ok_law_multinomial (P := P) (w := w) (base := base) Y.d_law_multinomial T
  have g_law_possible := ok_law_possible (P := P) (w := w) (base := base) Y.d_law_possible T g_can_remain g_remaining_range
  have g_law_numbered_right := ok_law_numbered_right (P := P) (w := w) (base := base) Y.d_law_numbered_right T g_law_draw g_law_step g_nth_order g_order_index
  have g_law_last_right := ok_law_last_right (P := P) (w := w) (base := base) Y.d_law_last_right T g_orders_leading_to g_law_of
  have g_law_long_right := ok_law_long_right (P := P) (w := w) (base := base) Y.d_law_long_right T g_law_draw g_nth_order g_order_index g_orders_leading_to g_likeliest_state
  exact fn_law F T g_law_reel g_law_draw g_law_large g_law_possible g_law_multinomial g_orders_leading_to g_likeliest_state g_order_count g_law_numbered_right g_law_last_right g_law_long_right
theorem all_mk {P : Program} {w : World} {K : PySem.W.Frag} {h : Heap} {mg : Str → Option Value} {fa f : Addr} {od an : Option Addr} {sl : Array (Option Value)} {oc kV dc pm cd ct : Value} (X : K.In h) (G : h.Ns mainGlobals mg) (hfa : mg "law" = some (.ref fa)) (a : PySem.W.nsIn K mainGlobals "law" = some (some (.ref f)))
    (l : K.lookup f = some ⟨oc, od, .func (PySem.W.fnOf "law" "law" (defArgs s_law) (defBody s_law) (defScope s_law) .none kV dc pm an cd ct), sl⟩) (c : PySem.W.codeIn K cd "law" = true) (k : PySem.W.keepIn K (.ref f) = true) (Y : Top K mg) :
    ∃ fd : FuncData, (∀ (s : Shared) (v : Value), BindsTo s fd ⟨[v], []⟩ [("script", v)]) ∧ ∀ base : Heap, K.In base → base.Ns mainGlobals mg → FnC P w K mg base fa fd ["script"] (sp_law K) := by
  have e := hfa.symm.trans (PySem.W.mg_of X G a)
  cases e
  exact ⟨_, fun s v => .of_eq rfl, fun base _ _ => Y.law (fun_mk (st := s_law) l c k) base⟩
end UP
open PySem PySem.W PyProof.Rows
set_option maxHeartbeats 0 in
theorem PySem.Challenge.cw_unlikepairs_k39_large_orders_holds : PySem.Challenge.rw_unlikepairs_k39_large_orders.Holds := by
  w_on; o_law; k_head; (case hw => w_witness2)
  k_fill
  refine UP.walkC (l := PySem.Challenge.rw_unlikepairs_k39_large_orders) (n := 63) (x := "script") (sp := fun w => UP.sp_law _) rfl (by decide) rfl (fun w h Y => PySem.W.kIn_of Y) ?F (fun _ _ a ns hl hS => ⟨a, ns, rfl, hS, hl, fun _ => rfl⟩)
  case F =>
    intro w mg fa h KX G hmg
    refine' UP.all_mk KX G hmg ?a ?l ?c ?k ?Y
    (case a => k_is); (case l => k_is); (case c => k_is); (case k => k_is)
    case Y =>
      constructor
      · constructor
        · refine' PySem.W.mg_none_of KX G ?z; (case z => k_is)
        · refine' PySem.W.mg_none_of KX G ?z; (case z => k_is)
        · refine' PySem.W.mg_none_of KX G ?z; (case z => k_is)
        · refine' PySem.W.mg_none_of KX G ?z; (case z => k_is)
        · refine' PySem.W.mg_none_of KX G ?z; (case z => k_is)
        · refine' PySem.W.mg_none_of KX G ?z; (case z => k_is)
        · refine' PySem.W.mg_none_of KX G ?z; (case z => k_is)
        · refine' PySem.W.mg_none_of KX G ?z; (case z => k_is)
        · refine' PySem.W.mg_none_of KX G ?z; (case z => k_is)
        · refine' PySem.W.mg_none_of KX G ?z; (case z => k_is)
        · refine' PySem.W.mg_none_of KX G ?z; (case z => k_is)
        · refine' PySem.W.mg_none_of KX G ?z; (case z => k_is)
        · refine' PySem.W.mg_none_of KX G ?z; (case z => k_is)
        · refine' PySem.W.mg_none_of KX G ?z; (case z => k_is)
        · refine' PySem.W.mg_none_of KX G ?z; (case z => k_is)
        · refine' PySem.W.mg_none_of KX G ?z; (case z => k_is)
        · refine' PySem.W.mg_none_of KX G ?z; (case z => k_is)
        · refine' PySem.W.mg_none_of KX G ?z; (case z => k_is)
        · refine' PySem.W.mg_none_of KX G ?z; (case z => k_is)
        · refine' PySem.W.mg_none_of KX G ?z; (case z => k_is)
        · refine' PySem.W.mg_none_of KX G ?z; (case z => k_is)
        · refine' UP.cst_mk KX G ?z; (case z => k_is)
        · refine' UP.cst_mk KX G ?z; (case z => k_is)
        · refine' UP.cst_mk KX G ?z; (case z => k_is)
        · refine' UP.cst_mk KX G ?z; (case z => k_is)
      · refine' UP.df_mk KX G ?a ?l ?c ?k; (case a => k_is); (case l => k_is); (case c => k_is); (case k => k_is)
      · refine' UP.df_mk KX G ?a ?l ?c ?k; (case a => k_is); (case l => k_is); (case c => k_is); (case k => k_is)
      · refine' UP.df_mk KX G ?a ?l ?c ?k; (case a => k_is); (case l => k_is); (case c => k_is); (case k => k_is)
      · refine' UP.df_mk KX G ?a ?l ?c ?k; (case a => k_is); (case l => k_is); (case c => k_is); (case k => k_is)
      · refine' UP.df_mk KX G ?a ?l ?c ?k; (case a => k_is); (case l => k_is); (case c => k_is); (case k => k_is)
      · refine' UP.df_mk KX G ?a ?l ?c ?k; (case a => k_is); (case l => k_is); (case c => k_is); (case k => k_is)
      · refine' UP.df_mk KX G ?a ?l ?c ?k; (case a => k_is); (case l => k_is); (case c => k_is); (case k => k_is)
      · refine' UP.df_mk KX G ?a ?l ?c ?k; (case a => k_is); (case l => k_is); (case c => k_is); (case k => k_is)
      · refine' UP.df_mk KX G ?a ?l ?c ?k; (case a => k_is); (case l => k_is); (case c => k_is); (case k => k_is)
      · refine' UP.df_mk KX G ?a ?l ?c ?k; (case a => k_is); (case l => k_is); (case c => k_is); (case k => k_is)
      · refine' UP.df_mk KX G ?a ?l ?c ?k; (case a => k_is); (case l => k_is); (case c => k_is); (case k => k_is)
      · refine' UP.df_mk KX G ?a ?l ?c ?k; (case a => k_is); (case l => k_is); (case c => k_is); (case k => k_is)
      · refine' UP.df_mk KX G ?a ?l ?c ?k; (case a => k_is); (case l => k_is); (case c => k_is); (case k => k_is)
      · refine' UP.df_mk KX G ?a ?l ?c ?k; (case a => k_is); (case l => k_is); (case c => k_is); (case k => k_is)
      · refine' UP.df_mk KX G ?a ?l ?c ?k; (case a => k_is); (case l => k_is); (case c => k_is); (case k => k_is)
      · refine' UP.df_mk KX G ?a ?l ?c ?k; (case a => k_is); (case l => k_is); (case c => k_is); (case k => k_is)
      · refine' UP.df_mk KX G ?a ?l ?c ?k; (case a => k_is); (case l => k_is); (case c => k_is); (case k => k_is)
      · refine' UP.df_mk KX G ?a ?l ?c ?k; (case a => k_is); (case l => k_is); (case c => k_is); (case k => k_is)
      · refine' UP.df_mk KX G ?a ?l ?c ?k; (case a => k_is); (case l => k_is); (case c => k_is); (case k => k_is)
      · refine' UP.df_mk KX G ?a ?l ?c ?k; (case a => k_is); (case l => k_is); (case c => k_is); (case k => k_is)
      · refine' UP.df_mk KX G ?a ?l ?c ?k; (case a => k_is); (case l => k_is); (case c => k_is); (case k => k_is)
      · refine' UP.df_mk KX G ?a ?l ?c ?k; (case a => k_is); (case l => k_is); (case c => k_is); (case k => k_is)
      · refine' UP.df_mk KX G ?a ?l ?c ?k; (case a => k_is); (case l => k_is); (case c => k_is); (case k => k_is)
      · refine' UP.df_mk KX G ?a ?l ?c ?k; (case a => k_is); (case l => k_is); (case c => k_is); (case k => k_is)
      · refine' UP.df_mk KX G ?a ?l ?c ?k; (case a => k_is); (case l => k_is); (case c => k_is); (case k => k_is)
      · refine' UP.df_mk KX G ?a ?l ?c ?k; (case a => k_is); (case l => k_is); (case c => k_is); (case k => k_is)
      · refine' UP.df_mk KX G ?a ?l ?c ?k; (case a => k_is); (case l => k_is); (case c => k_is); (case k => k_is)
      · refine' UP.df_mk KX G ?a ?l ?c ?k; (case a => k_is); (case l => k_is); (case c => k_is); (case k => k_is)
      · refine' UP.df_mk KX G ?a ?l ?c ?k; (case a => k_is); (case l => k_is); (case c => k_is); (case k => k_is)
      · refine' UP.df_mk KX G ?a ?l ?c ?k; (case a => k_is); (case l => k_is); (case c => k_is); (case k => k_is)
      · refine' UP.df_mk KX G ?a ?l ?c ?k; (case a => k_is); (case l => k_is); (case c => k_is); (case k => k_is)
      · refine' UP.df_mk KX G ?a ?l ?c ?k; (case a => k_is); (case l => k_is); (case c => k_is); (case k => k_is)
      · refine' UP.df_mk KX G ?a ?l ?c ?k; (case a => k_is); (case l => k_is); (case c => k_is); (case k => k_is)
      · refine' UP.df_mk KX G ?a ?l ?c ?k; (case a => k_is); (case l => k_is); (case c => k_is); (case k => k_is)
      · refine' UP.df_mk KX G ?a ?l ?c ?k; (case a => k_is); (case l => k_is); (case c => k_is); (case k => k_is)
      · refine' UP.df_mk KX G ?a ?l ?c ?k; (case a => k_is); (case l => k_is); (case c => k_is); (case k => k_is)
      · refine' UP.df_mk KX G ?a ?l ?c ?k; (case a => k_is); (case l => k_is); (case c => k_is); (case k => k_is)
      · refine' UP.df_mk KX G ?a ?l ?c ?k; (case a => k_is); (case l => k_is); (case c => k_is); (case k => k_is)
      · refine' UP.df_mk KX G ?a ?l ?c ?k; (case a => k_is); (case l => k_is); (case c => k_is); (case k => k_is)
      · refine' UP.df_mk KX G ?a ?l ?c ?k; (case a => k_is); (case l => k_is); (case c => k_is); (case k => k_is)
      · refine' UP.df_mk KX G ?a ?l ?c ?k; (case a => k_is); (case l => k_is); (case c => k_is); (case k => k_is)
      · refine' UP.df_mk KX G ?a ?l ?c ?k; (case a => k_is); (case l => k_is); (case c => k_is); (case k => k_is)
      · refine' UP.df_mk KX G ?a ?l ?c ?k; (case a => k_is); (case l => k_is); (case c => k_is); (case k => k_is)
      · refine' UP.df_mk KX G ?a ?l ?c ?k; (case a => k_is); (case l => k_is); (case c => k_is); (case k => k_is)
      · refine' UP.df_mk KX G ?a ?l ?c ?k; (case a => k_is); (case l => k_is); (case c => k_is); (case k => k_is)
      · refine' UP.df_mk KX G ?a ?l ?c ?k; (case a => k_is); (case l => k_is); (case c => k_is); (case k => k_is)
      · refine' UP.df_mk KX G ?a ?l ?c ?k; (case a => k_is); (case l => k_is); (case c => k_is); (case k => k_is)
      · refine' UP.df_mk KX G ?a ?l ?c ?k; (case a => k_is); (case l => k_is); (case c => k_is); (case k => k_is)
      · refine' UP.df_mk KX G ?a ?l ?c ?k; (case a => k_is); (case l => k_is); (case c => k_is); (case k => k_is)
