package tests

import (
	"fmt"
	"strings"
	"testing"

	"loop.example/wayboard/impl"
)

var (
	everything = impl.Range{First: 0, Bits: 0}
	quarter    = impl.Range{First: 64, Bits: 2}
	alone      = impl.Range{First: 77, Bits: 8}
)

func TestRangeLimits(t *testing.T) {
	if impl.AddrMax != 255 || impl.BitMax != 8 {
		t.Error(impl.AddrMax, impl.BitMax)
	}
	if n := len(prefixes()); n != 511 {
		t.Error("prefixes:", n)
	}
}

func TestP1ManyCountsTheAddresses(t *testing.T) {
	for _, r := range prefixes() {
		n := 0
		for _, addr := range addresses() {
			if impl.RangeHas(r, addr) {
				n++
			}
		}
		if got := impl.RangeMany(r); got != n || got != len(members(r)) {
			t.Errorf("%v: many %d, has %d", r, got, n)
		}
		shorter := impl.Range{First: r.First, Bits: r.Bits - 1}
		if isPrefix(shorter) && impl.RangeMany(shorter) != 2*impl.RangeMany(r) {
			t.Errorf("%v: a bit less does not double", r)
		}
	}
	if impl.RangeMany(everything) != 256 || impl.RangeMany(quarter) != 64 || impl.RangeMany(alone) != 1 {
		t.Error("many of 0/0, 64/2, 77/8")
	}
	for _, r := range notPrefixes() {
		if impl.RangeMany(r) != 0 {
			t.Errorf("%v: many of an invalid prefix", r)
		}
	}
}

func TestP2HasFromFirstOn(t *testing.T) {
	for _, r := range prefixes() {
		last := r.First + impl.RangeMany(r) - 1
		for _, addr := range addresses() {
			got := impl.RangeHas(r, addr)
			if got != (r.First <= addr && addr <= last) || got != covers(r, addr) {
				t.Errorf("%v has %d: %v", r, addr, got)
			}
		}
	}
	for addr, want := range map[int]bool{63: false, 64: true, 100: true, 127: true, 128: false} {
		if impl.RangeHas(quarter, addr) != want {
			t.Errorf("64/2 has %d: %v", addr, !want)
		}
	}
	for _, r := range notPrefixes() {
		for _, addr := range addresses() {
			if impl.RangeHas(r, addr) {
				t.Errorf("invalid %v has %d", r, addr)
			}
		}
	}
}

func TestP3InWhenEveryAddressIs(t *testing.T) {
	all := prefixes()
	for _, a := range all {
		for _, b := range all {
			want := true
			for _, addr := range members(a) {
				want = want && covers(b, addr)
			}
			got := impl.RangeIn(a, b)
			if got != want {
				t.Errorf("%v in %v: %v", a, b, got)
			}
			if got && impl.RangeIn(b, a) != (a == b) {
				t.Errorf("%v and %v: in both directions", a, b)
			}
		}
	}
}

func TestP3InNeedsValidPrefixes(t *testing.T) {
	for _, bad := range notPrefixes() {
		for _, r := range []impl.Range{everything, quarter, alone, {First: 255, Bits: 8}} {
			if impl.RangeIn(bad, r) || impl.RangeIn(r, bad) {
				t.Errorf("invalid %v and %v", bad, r)
			}
		}
		if impl.RangeIn(bad, bad) {
			t.Errorf("invalid %v in itself", bad)
		}
	}
}

func TestP4CommonAddressOnlyIfNested(t *testing.T) {
	all := prefixes()
	for _, a := range all {
		for _, b := range all {
			common := false
			for addr := 0; addr <= 255; addr++ {
				common = common || impl.RangeHas(a, addr) && impl.RangeHas(b, addr)
			}
			if common != (impl.RangeIn(a, b) || impl.RangeIn(b, a)) {
				t.Errorf("%v and %v: common %v", a, b, common)
			}
		}
	}
}

func TestP5InIsTransitive(t *testing.T) {
	all := append(prefixes(), notPrefixes()...)
	above := map[impl.Range][]impl.Range{}
	for _, a := range prefixes() {
		for _, b := range all {
			if impl.RangeIn(a, b) {
				above[a] = append(above[a], b)
			}
		}
		if len(above[a]) != a.Bits+1 {
			t.Errorf("%v is in %v", a, above[a])
		}
	}
	for a, bs := range above {
		for _, b := range bs {
			for _, c := range above[b] {
				if !impl.RangeIn(a, c) {
					t.Errorf("%v in %v in %v", a, b, c)
				}
			}
		}
	}
}

func TestP6EachAddressInOneHalf(t *testing.T) {
	for _, r := range prefixes() {
		lower, lowerOk := impl.RangeHalf(r, false)
		upper, upperOk := impl.RangeHalf(r, true)
		if r.Bits == 8 {
			if lowerOk || upperOk || lower != (impl.Range{}) || upper != (impl.Range{}) {
				t.Errorf("halves of %v: %v %v", r, lower, upper)
			}
			continue
		}
		if !lowerOk || !upperOk || lower.Bits != r.Bits+1 || upper.Bits != r.Bits+1 || lower.First >= upper.First {
			t.Errorf("halves of %v: %v %v", r, lower, upper)
		}
		for addr := 0; addr <= 255; addr++ {
			inLower, inUpper := impl.RangeHas(lower, addr), impl.RangeHas(upper, addr)
			if inLower && inUpper || (inLower || inUpper) != impl.RangeHas(r, addr) {
				t.Errorf("%d of %v: in lower %v, in upper %v", addr, r, inLower, inUpper)
			}
		}
	}
	for _, r := range notPrefixes() {
		for _, upper := range []bool{false, true} {
			if half, ok := impl.RangeHalf(r, upper); ok || half != (impl.Range{}) {
				t.Errorf("half of invalid %v: %v %v", r, half, ok)
			}
		}
	}
}

func TestP7ReadBackFromText(t *testing.T) {
	for _, r := range prefixes() {
		text := impl.RangeText(r)
		if want := fmt.Sprintf("%d/%d", r.First, r.Bits); text != want {
			t.Errorf("text of %v: %q", r, text)
		}
		if got, ok := impl.RangeRead(text); !ok || got != r {
			t.Errorf("read %q: %v %v", text, got, ok)
		}
	}
	for _, r := range notPrefixes() {
		if text := impl.RangeText(r); text != "" {
			t.Errorf("text of invalid %v: %q", r, text)
		}
	}
}

// readsOnly checks that a text is read if and only if it is a text of a valid prefix, and then as that one.
func readsOnly(t *testing.T, known map[string]impl.Range, text string) {
	t.Helper()
	want, wantOk := known[text]
	got, ok := impl.RangeRead(text)
	if ok != wantOk || got != want {
		t.Errorf("read %q: %v %v", text, got, ok)
	}
	if ok && (!impl.RangeOk(got) || impl.RangeText(got) != text) {
		t.Errorf("read %q, but it is written %q", text, impl.RangeText(got))
	}
}

func knownTexts() map[string]impl.Range {
	known := map[string]impl.Range{}
	for _, r := range prefixes() {
		known[fmt.Sprintf("%d/%d", r.First, r.Bits)] = r
	}
	return known
}

func TestP8ReadsNothingElse(t *testing.T) {
	known := knownTexts()
	texts := []string{
		"", "/", "//", "64", "64/", "/2", "2", "64 2", "64-2", "64\\2", "64.2",
		"064/2", "0064/2", "64/02", "64/00", "00/0", "0/00", "-0/0", "0/-0", "00000000000000000000064/2",
		"+64/2", "64/+2", "-64/2", "64/-2", "--64/2",
		" 64/2", "64 /2", "64/ 2", "64/2 ", "\t64/2", "64/2\n", "64/2\r\n", "\n64/2", "64/2\x00", "\x0064/2", "\u00a064/2",
		"x64/2", "64/2x", "64/2/", "/64/2", "64//2", "64/2/2", "64/2,64/2", "64/2 64/2", "(64/2)",
		"256/8", "256/0", "999/8", "1000/8", "0/9", "0/10", "0/80", "0/256", "128/18446744073709551617",
		"64/1", "1/0", "1/7", "255/7", "128/0", "3/2", "96/2",
		"18446744073709551680/2", "9223372036854775807/8", "9223372036854775808/8", "-9223372036854775808/8", "4294967360/2",
		"0x40/2", "0b0/0", "0o0/0", "6_4/2", "64/0x2", "6e1/4", "64.0/2", "1e2/6", "NaN/2", "Inf/2",
		"\u0666\u0664/2", "\uff16\uff14/\uff12", "64\u20442", "\xff/\xff", "64/\xff2",
		strings.Repeat("0", 5000) + "64/2", strings.Repeat("9", 5000) + "/8", "64/" + strings.Repeat("2", 5000), strings.Repeat("/", 5000),
	}
	for _, text := range texts {
		if _, ok := known[text]; ok {
			t.Fatalf("%q is the text of a prefix", text)
		}
		readsOnly(t, known, text)
	}
}

func TestP8ReadsNumbersInRangeOnly(t *testing.T) {
	known := knownTexts()
	for first := -20; first <= 300; first++ {
		for bits := -5; bits <= 20; bits++ {
			readsOnly(t, known, fmt.Sprintf("%d/%d", first, bits))
		}
	}
	for _, r := range notPrefixes() {
		readsOnly(t, known, fmt.Sprintf("%d/%d", r.First, r.Bits))
	}
}

func TestP8ReadsNoTextWithAByteChanged(t *testing.T) {
	known := knownTexts()
	for text := range known {
		for i := 0; i <= len(text); i++ {
			for c := 0; c < 256; c++ {
				b := string([]byte{byte(c)})
				readsOnly(t, known, text[:i]+b+text[i:])
				if i < len(text) {
					readsOnly(t, known, text[:i]+b+text[i+1:])
				}
			}
			if i < len(text) {
				readsOnly(t, known, text[:i]+text[i+1:])
			}
		}
	}
}

func FuzzP8Read(f *testing.F) {
	for _, text := range []string{"64/2", "0/0", "255/8", "064/2", "+64/2", "64/2 ", ""} {
		f.Add(text)
	}
	known := knownTexts()
	f.Fuzz(func(t *testing.T, text string) {
		readsOnly(t, known, text)
	})
}

func TestP9CmpOrders(t *testing.T) {
	all := prefixes()
	for i, a := range all {
		for j, b := range all {
			want := 0
			if i < j {
				want = -1
			} else if i > j {
				want = 1
			}
			got := impl.RangeCmp(a, b)
			if got != want || impl.RangeCmp(b, a) != -got || (got == 0) != (a == b) {
				t.Errorf("cmp %v %v: %d", a, b, got)
			}
			if a != b && impl.RangeIn(a, b) && got != 1 {
				t.Errorf("%v is not behind %v, which covers it", a, b)
			}
		}
	}
	for _, bad := range notPrefixes() {
		for _, r := range []impl.Range{everything, quarter, alone, {First: 255, Bits: 8}, bad} {
			if impl.RangeCmp(bad, r) != 0 || impl.RangeCmp(r, bad) != 0 {
				t.Errorf("cmp of invalid %v and %v", bad, r)
			}
		}
	}
}

func TestP10OkIfFirstIsAMultiple(t *testing.T) {
	sizes := []int{256, 128, 64, 32, 16, 8, 4, 2, 1}
	numbers := addresses()
	for _, first := range numbers {
		for _, bits := range numbers {
			r := impl.Range{First: first, Bits: bits}
			want := false
			if 0 <= bits && bits <= 8 && isAddress(first) {
				want = first%sizes[bits] == 0
			}
			if got := impl.RangeOk(r); got != want || got != isPrefix(r) {
				t.Errorf("%v ok: %v", r, got)
			}
		}
	}
	for _, r := range notPrefixes() {
		if impl.RangeOk(r) {
			t.Errorf("%v is ok", r)
		}
	}
}

func TestP11QuartersAddUp(t *testing.T) {
	for _, r := range prefixes() {
		sum, quarters := 0, 0
		for _, upper := range []bool{false, true} {
			half, _ := impl.RangeHalf(r, upper)
			for _, upperAgain := range []bool{false, true} {
				if q, ok := impl.RangeHalf(half, upperAgain); r.Bits < 8 && ok {
					if impl.RangeMany(q)*4 != impl.RangeMany(r) || !impl.RangeIn(q, r) {
						t.Errorf("%v is no quarter of %v", q, r)
					}
					sum += impl.RangeMany(q)
					quarters++
				}
			}
		}
		if r.Bits <= 6 && (quarters != 4 || sum != impl.RangeMany(r)) {
			t.Errorf("%v: %d quarters with %d addresses", r, quarters, sum)
		}
		if r.Bits > 6 && quarters != 0 {
			t.Errorf("%v: %d quarters", r, quarters)
		}
	}
}

func TestP12CmpIsTransitive(t *testing.T) {
	all := append(prefixes(), impl.Range{First: 1, Bits: 0}, impl.Range{First: -1, Bits: 8}, impl.Range{First: 256, Bits: 8}, impl.Range{First: 0, Bits: 9})
	before := make([][]bool, len(all))
	for i, a := range all {
		before[i] = make([]bool, len(all))
		for j, b := range all {
			before[i][j] = impl.RangeCmp(a, b) == -1
		}
	}
	for i := range all {
		for j := range all {
			if !before[i][j] {
				continue
			}
			for k := range all {
				if before[j][k] && !before[i][k] {
					t.Fatalf("%v before %v before %v", all[i], all[j], all[k])
				}
			}
		}
	}
}

func TestP13TextsDiffer(t *testing.T) {
	seen := map[string]impl.Range{}
	for _, r := range prefixes() {
		text := impl.RangeText(r)
		if other, ok := seen[text]; ok || text == "" {
			t.Errorf("%q is the text of %v and %v", text, other, r)
		}
		seen[text] = r
	}
}

func TestP14OneAddressAlone(t *testing.T) {
	all := append(prefixes(), notPrefixes()...)
	for first := 0; first <= 255; first++ {
		one := impl.Range{First: first, Bits: impl.BitMax}
		if !impl.RangeOk(one) || impl.RangeMany(one) != 1 {
			t.Errorf("%v: many %d", one, impl.RangeMany(one))
		}
		for _, addr := range addresses() {
			if impl.RangeHas(one, addr) != (addr == first) {
				t.Errorf("%v has %d: %v", one, addr, addr != first)
			}
		}
		for _, r := range all {
			if impl.RangeIn(one, r) != impl.RangeHas(r, first) {
				t.Errorf("%v in %v: %v", one, r, !impl.RangeHas(r, first))
			}
		}
		for _, upper := range []bool{false, true} {
			if half, ok := impl.RangeHalf(one, upper); ok || half != (impl.Range{}) {
				t.Errorf("half of %v: %v", one, half)
			}
		}
	}
}
