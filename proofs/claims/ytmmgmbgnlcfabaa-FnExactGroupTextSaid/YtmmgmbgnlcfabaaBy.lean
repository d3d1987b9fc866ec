/- Bytes of the call's own that grow by appends of strings; small numbers in decimal. -/
import Derived.Deep.AppendSrc
import Derived.Deep.AppendLies
import Derived.Laws.CopyRow
import Derived.Laws.IdiomStrings
import Derived.Lib.BufferRead
import Derived.Test.YtmmgmbgnlcfabaaEx
namespace Go.Proofs.Ytmmgmbgnlcfabaa
open Go.RowKit

theorem infoB : (Try.prog.info? 5).map (fun i => (i.zero, i.size, i.bytes)) = some (some (.int .u8 0), 1, 1) := by kernel_rfl

section
variable {P : Program} (w : World)
/-- There is room: the cells of a row that is known whole. -/
theorem append_room_src (t tx ty e : TypeId) (i : TypeInfo) (ht : P.underlying t = some (.slice e)) (hi : P.info? e = some i) (g sLen sCap : Nat) (cur : Array Value) (hg : w.heap[g]? = some (.cells cur e (0, 0)))
    (x : Value) (m : Nat) (news : List Value) (hs : Src P i.size tx x m news w) (hroom : sLen + m ≤ sCap) (hfit : sLen * i.size + news.length ≤ cur.size) :
    (Builtin.append_ #[t, tx] ty #[.slice (some ⟨g, 0, none⟩) sLen sCap, x]).run P w = .ok (.slice (some ⟨g, 0, none⟩) (sLen + m) sCap) (w.setRow g (cur.toList.take (sLen * i.size) ++ news ++ cur.toList.drop (sLen * i.size + news.length)).toArray) := by
  have hst := run_storeCells_at P g (sLen * i.size) e news 0 cur w hg (by simpa using hfit) hs.one
  simp only [Nat.add_zero] at hst
  rcases hs.kind with ⟨e', hk⟩ | hk <;> simp [Builtin.append_, run_underlying ht, run_underlying hk, sizeOf, typeInfo, hi, hs.len, hroom, hs.cells, Addr.add_lit, hst]

/-- append of at least one element, whatever its source, onto a row of the call's own. -/
theorem append_own_src (base : Nat) (t tx ty e : TypeId) (i : TypeInfo) (z : Value) (ht : P.underlying t = some (.slice e)) (hi : P.info? e = some i) (hz : i.zero = some z) (hsize : i.size = 1) (hby : i.bytes = 1) (hzs : z.cells.size = 1)
    (v : Value) (n : Nat) (xs : List Value) (hown : w.ownsRow base e 1 v n xs) (x : Value) (m : Nat) (news : List Value) (hs : Src P i.size tx x m news w) (hm : 0 < m) (h63 : n + m ≤ 1048576) (hbase : base ≤ w.heap.size) :
    ∃ g c w', (Builtin.append_ #[t, tx] ty #[v, x]).run P w = .ok (.slice (some ⟨g, 0, none⟩) (n + m) c) w' ∧ w'.ownsRow base e 1 (.slice (some ⟨g, 0, none⟩) (n + m) c) (n + m) (xs ++ news) ∧ w.grownBy w' v.ownBlock := by
  have hl : news.length = m * 1 := by have := hs.newsLen; rw [hsize] at this; exact this
  have hmx : n + m ≤ maxLen := by unfold maxLen; omega
  have hlen : (xs ++ news).length = (n + m) * 1 := by rw [List.length_append, hown.1, hl, Nat.add_mul]
  have grown : ∀ (old : Nat), old < n + m → ∀ (row : Option Nat),
      (w.drew.alloc (.cells ((xs ++ news).toArray ++ Builtin.zeroCells z.cells (grownCap w (n + m) old e - (n + m))) e)).ownsRow base e 1 (.slice (some ⟨w.heap.size, 0, none⟩) (n + m) (grownCap w (n + m) old e)) (n + m) (xs ++ news) ∧
      w.grownBy (w.drew.alloc (.cells ((xs ++ news).toArray ++ Builtin.zeroCells z.cells (grownCap w (n + m) old e - (n + m))) e)) row := by
    intro old ho row
    have hge := grownCap_ge w (n + m) old e
    have hcm : grownCap w (n + m) old e ≤ maxLen := grownCap_le_maxLen w (n + m) old e hmx
    refine ⟨⟨hlen, .inr ⟨w.heap.size, _, _, rfl, hbase, heap_alloc_new w.drew _, hge, hcm, ?_, ?_⟩⟩, ⟨rfl, rfl, rfl, by simp, fun k hk _ => Below.heap_alloc w.drew _ k hk⟩⟩
    · simp only [Array.size_append, List.size_toArray, size_zeroCells, hzs, hlen]
      omega
    · simp only [Array.toList_append]
      rw [← hlen]
      exact List.take_left
  rcases hown.2 with ⟨rfl, rfl⟩ | ⟨g, cap, cur, rfl, hbg, hg, hnc, hcm, hcs, htake⟩
  · have hx : xs = [] := List.eq_nil_of_length_eq_zero (by simpa using hown.1)
    subst hx
    have hr := run_append_grow_src (P := P) (w := w) t tx ty e i z ht hi hz none 0 0 [] (run_firstCells_none w.drew i.size 0 0 0) x m news hs (by omega) (by omega) (growslice_fits (by omega) (by rw [hby]; omega))
    have hgr := grown 0 (by omega) (Value.ownBlock (.slice none 0 0))
    exact ⟨_, _, _, hr, hgr.1, hgr.2⟩
  · by_cases hroom : n + m ≤ cap
    · have hfit : n * i.size + news.length ≤ cur.size := by rw [hl, hcs, hsize]; omega
      have hr := append_room_src (P := P) w t tx ty e i ht hi g n cap cur hg x m news hs hroom hfit
      rw [hsize] at hr
      refine ⟨_, _, _, hr, ⟨hlen, .inr ⟨g, cap, _, rfl, hbg, setRow_heap w g cur _ e _ hg, hroom, hcm, ?_, ?_⟩⟩, ⟨rfl, rfl, rfl, by simp, fun k _ hk => setRow_other w g k _ (fun e => hk (by simp [Value.ownBlock, e]))⟩⟩
      · simp only [List.size_toArray, List.length_append, List.length_take, List.length_drop, Array.length_toList]
        rw [hsize] at hfit
        omega
      · rw [htake, ← hlen]
        exact List.take_left
    · have holds : ∀ j u, xs[j]? = some u → w.cell? ((⟨g, 0, none⟩ : Addr).add j) = some u := hown.cells (g := g) rfl
      have hr := run_append_grow_src (P := P) (w := w) t tx ty e i z ht hi hz (some ⟨g, 0, none⟩) n cap xs (run_firstCells_some w.drew i.size n ⟨g, 0, none⟩ n cap xs (by rw [hsize]; exact hown.1) (by simpa using holds)) x m news hs (by omega) (by omega) (growslice_fits (by omega) (by rw [hby]; omega))
      have hgr := grown cap (by omega) (Value.ownBlock (.slice (some ⟨g, 0, none⟩) n cap))
      exact ⟨_, _, _, hr, hgr.1, hgr.2⟩
end

/-- Bytes that grow: the value v owns the bytes l, in a block from lo on. -/
def GrowB (w : World) (lo : Nat) (v : Value) (l : List UInt8) : Prop := w.ownsRow lo 5 1 v l.length (l.map fun c => .int .u8 (c.toNat : Int))
theorem GrowB.ex {w w' : World} {lo : Nat} {v : Value} {l : List UInt8} (h : GrowB w lo v l) (k : Ex w w') : GrowB w' lo v l := own_below h k
theorem GrowB.nil (w : World) (lo : Nat) : GrowB w lo (.slice none 0 0) [] := World.ownsRow_nil _ _ _ _
theorem Ex.grewB {a w w' : World} {lo : Nat} {v : Value} {l : List UInt8} (h : Ex a w) (ho : GrowB w lo v l) (hl : a.heap.size ≤ lo) (hg : w.grownBy w' v.ownBlock) : Ex a w' :=
  Below.grown h.below hg h.size fun k hk => Nat.le_trans hl (ho.lt k hk).1
theorem GrowB.form {w : World} {lo : Nat} {v : Value} {l : List UInt8} (h : GrowB w lo v l) : ∃ A c, v = .slice A l.length c := by
  rcases h.2 with ⟨rfl, h0⟩ | ⟨g, cap, cur, rfl, _⟩
  · exact ⟨none, 0, by rw [h0]⟩
  · exact ⟨_, _, rfl⟩

/-- What append of a string leaves. -/
theorem append_bytes (ty : TypeId) (w : World) (lo : Nat) (v : Value) (l : List UInt8) (s : ByteArray) (h : GrowB w lo v l) (hs : 0 < s.size) (hl : l.length + s.size ≤ 1048576) (hlo : lo ≤ w.heap.size) :
    ∃ g c w', (Builtin.append_ #[65, 9] ty #[v, .string s]).run Try.prog w = .ok (.slice (some ⟨g, 0, none⟩) (l.length + s.size) c) w' ∧ GrowB w' lo (.slice (some ⟨g, 0, none⟩) (l.length + s.size) c) (l ++ s.data.toList) ∧ w.grownBy w' v.ownBlock := by
  obtain ⟨i0, hi, hi0, hi1, hi2⟩ := info_parts infoB
  have hsrc : Src Try.prog i0.size 9 (.string s) s.size (byteCells s) w := by rw [hi1]; exact Src.ofString w Try.underlying9 s
  obtain ⟨g, c, w', h1, h2, h3⟩ := append_own_src (P := Try.prog) w lo 65 9 ty 5 i0 _ Try.underlying65 hi hi0 hi1 hi2 rfl v l.length _ h (.string s) s.size (byteCells s) hsrc hs hl hlo
  refine ⟨g, c, w', h1, ?_, h3⟩
  unfold GrowB
  rw [List.length_append, List.map_append]
  have e : s.data.toList.length = s.size := by rw [Array.length_toList]; rfl
  rw [e]
  exact h2

/-- 'string(b)' of such bytes. -/
theorem bytes_string (w : World) (lo : Nat) (v : Value) (l : List UInt8) (h : GrowB w lo v l) : (convert 65 9 v).run Try.prog w = .ok (.string ⟨l.toArray⟩) w := by
  have h' : w.ownsRow lo 5 1 v l.length (l.map fun c => .int .u8 (c.toNat : Int)) := h
  rcases h.2 with ⟨rfl, h0⟩ | ⟨g, cap, cur, rfl, _⟩
  · obtain rfl : l = [] := List.eq_nil_of_length_eq_zero h0
    exact Lib.run_convert_nil_bytes w 65 9 5 0 Try.underlying65 Try.underlying5 Try.underlying9
  · refine run_convert_bytes_back w 65 9 5 ⟨g, 0, none⟩ cap l Try.underlying65 Try.underlying5 Try.underlying9 fun j hj => ?_
    rw [Addr.add_lit, h'.cellAt (0 + j) (by omega)]
    simp [hj]

/-- A number less than 100 in decimal. -/
def decL (n : Nat) : List UInt8 := if n < 10 then [UInt8.ofNat (48 + n)] else [UInt8.ofNat (48 + n / 10), UInt8.ofNat (48 + n % 10)]
def decB (n : Nat) : ByteArray := ⟨(decL n).toArray⟩
theorem decB_list (n : Nat) : (decB n).data.toList = decL n := rfl
theorem decL_len (n : Nat) : 0 < (decL n).length ∧ (decL n).length ≤ 2 := by unfold decL; split <;> simp
theorem decB_size (n : Nat) : (decB n).size = (decL n).length := by simp [decB, ByteArray.size]

/-- append of a string, at the operation. -/
theorem wpList_append_bytes {w : World} {ops : Array Oper} {rest : List Oper} {o : Oper} {a : Act} {Q : Exit → Act → World → Prop} (hgd : o.guard = none) (s x : Operand)
    (ho : o.op = .call { callee := .builtin .append, args := #[s, x], argTypes := #[65, 9] }) (lo : Nat) (v : Value) (l : List UInt8) (str : ByteArray) (hs : a.eval s = v) (hx : a.eval x = .string str) (hG : GrowB w lo v l)
    (hp : 0 < str.size) (hl : l.length + str.size ≤ 1048576) (hlo : lo ≤ w.heap.size)
    (h : ∀ g c w', GrowB w' lo (.slice (some ⟨g, 0, none⟩) (l.length + str.size) c) (l ++ str.data.toList) → w.grownBy w' v.ownBlock → wpList Try.prog ops Q rest (a.put o.dst (.slice (some ⟨g, 0, none⟩) (l.length + str.size) c)) w') : wpList Try.prog ops Q (o :: rest) a w := by
  refine wpList_plain hgd fun K hK => ?_
  obtain ⟨g, c, w', hr, h2, h3⟩ := append_bytes o.type w lo v l str hG hp hl hlo
  unfold Oper.wp
  simp [execOp, ho, resolve, invoke, builtin, hs, hx, hr, Result.andThen]
  exact hK _ _ (h g c w' h2 h3)

end Go.Proofs.Ytmmgmbgnlcfabaa
