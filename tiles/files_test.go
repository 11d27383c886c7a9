package tiles_test

import (
	"bytes"
	"fmt"
	"math"
	"math/big"
	"regexp"
	"slices"
	"strconv"
	"strings"
	"testing"

	"tiles/api"
	"tiles/tiles"
)

// edits: a text with one byte taken out, put in or changed, for each place and each of some letters; the text itself may be among them.
func edits(text, letters string) []string {
	var out []string
	for i := range len(text) + 1 {
		for _, letter := range []byte(letters) {
			out = append(out, text[:i]+string(letter)+text[i:])
			if i < len(text) {
				out = append(out, text[:i]+string(letter)+text[i+1:])
			}
		}
		if i < len(text) {
			out = append(out, text[:i]+text[i+1:])
		}
	}
	return out
}

// aboveInt is the least number that no int holds, in digits.
func aboveInt() string {
	n := big.NewInt(math.MaxInt)
	return n.Add(n, big.NewInt(1)).String()
}

// P8

func TestNameOfTheExamplesAndEdges(t *testing.T) {
	greatest := strconv.Itoa(math.MaxInt)
	for _, c := range []struct {
		level, index, width int
		want                string
	}{
		{0, 0, 4, "tile/0/0"},
		{1, 12, 3, "tile/1/12.p/3"},
		{-1, 0, 1, "entries/0.p/1"},
		{-1, 0, 4, "entries/0"},
		{-1, 10, 2, "entries/10.p/2"},
		{-1, math.MaxInt, 4, "entries/" + greatest},
		{-1, math.MaxInt, 3, "entries/" + greatest + ".p/3"},
		{0, math.MaxInt, 4, "tile/0/" + greatest},
		{20, 0, 4, "tile/20/0"},
		{20, math.MaxInt, 1, "tile/20/" + greatest + ".p/1"},
		{10, 100, 2, "tile/10/100.p/2"},
	} {
		if got := tiles.Name(c.level, c.index, c.width); got != c.want {
			t.Errorf("P8: Name(%d, %d, %d) = %q, want %q", c.level, c.index, c.width, got, c.want)
		}
		wantParsed(t, c.want, c.level, c.index, c.width)
	}
}

func wantParsed(t *testing.T, path string, level, index, width int) {
	t.Helper()
	l, i, w, ok := tiles.Parse(path)
	if !ok || l != level || i != index || w != width {
		t.Errorf("P8: Parse(%q) = %d, %d, %d, %v, want %d, %d, %d", path, l, i, w, ok, level, index, width)
	}
}

func wantNoPath(t *testing.T, path string) {
	t.Helper()
	if l, i, w, ok := tiles.Parse(path); ok || l != 0 || i != 0 || w != 0 {
		t.Errorf("P8: Parse(%q) = %d, %d, %d, %v", path, l, i, w, ok)
	}
}

func wantName(level, index, width int) string {
	folder, part := fmt.Sprintf("tile/%d", level), fmt.Sprintf(".p/%d", width)
	if level == -1 {
		folder = "entries"
	}
	if width == 4 {
		part = ""
	}
	return fmt.Sprintf("%s/%d%s", folder, index, part)
}

func TestNameAndParseGoBackAndForth(t *testing.T) {
	for level := -1; level <= 20; level++ {
		for _, index := range []int{0, 1, 3, 4, 9, 10, 99, 100, 101, 1 << 20, math.MaxInt - 1, math.MaxInt} {
			for width := 1; width <= 4; width++ {
				want := wantName(level, index, width)
				if got := tiles.Name(level, index, width); got != want {
					t.Errorf("P8: Name(%d, %d, %d) = %q, want %q", level, index, width, got, want)
				}
				wantParsed(t, want, level, index, width)
			}
		}
	}
}

func TestNameOfWrongNumbers(t *testing.T) {
	for _, level := range wildNumbers() {
		for _, index := range wildNumbers() {
			for _, width := range wildNumbers() {
				fits := level >= -1 && level <= 20 && index >= 0 && width >= 1 && width <= 4
				if got := tiles.Name(level, index, width); (got != "") != fits {
					t.Errorf("P8: Name(%d, %d, %d) = %q", level, index, width, got)
				}
			}
		}
	}
	for _, c := range [][3]int{{-2, 0, 4}, {21, 0, 4}, {22, 0, 1}, {0, -1, 4}, {-1, -1, 1}, {0, 0, 0}, {0, 0, 5}, {-1, 0, -1}, {256, 0, 4}, {1 << 16, 0, 4}} {
		if got := tiles.Name(c[0], c[1], c[2]); got != "" {
			t.Errorf("P8: Name of %d = %q", c, got)
		}
	}
}

func TestParseOfWhatIsNoPath(t *testing.T) {
	for _, path := range []string{
		"", " ", "/", "tile", "tile/", "tile//", "tile/0", "tile/0/", "tile//0", "/0", "0", "0/0", "/0/0", "entries", "entries/", "entries//0", "entries/0/", "checkpoint",
		"tile/00/0", "tile/01/0", "tile/0/00", "tile/0/01", "entries/00", "entries/01", "tile/0/0.p/01", "entries/0.p/03", "entries/01.p/3",
		"tile/-1/0", "tile/-2/0", "tile/-0/0", "tile/0/-0", "tile/0/-1", "tile/+0/0", "tile/0/+0", "entries/-1", "entries/-0", "entries/+1", "entries/0.p/+1", "entries/0.p/-1",
		"tile/21/0", "tile/22/0.p/1", "tile/100/0", "tile/" + aboveInt() + "/0", "tile/18446744073709551615/0", "tile/18446744073709551616/0",
		"tile/0/" + aboveInt(), "entries/" + aboveInt(), "entries/" + aboveInt() + ".p/1", "entries/18446744073709551616", "entries/99999999999999999999999",
		"tile/0/0.p/0", "tile/0/0.p/4", "tile/0/0.p/5", "entries/0.p/0", "entries/0.p/4", "entries/0.p/5", "entries/0.p/10", "entries/0.p/18446744073709551617",
		"tile/0/0.p", "tile/0/0.p/", "tile/0/0/1", "tile/0/0.P/1", "tile/0/0.p1", "tile/0/0p/1", "tile/0/.p/1", "tile/0.p/1", "entries/.p/1", "entries/0.p/1.p/1", "entries/0.p/1/", "entries/0.p//1", "entries/0.p/.p/1",
		"Tile/0/0", "TILE/0/0", "Entries/0", "tiles/0/0", "tile/0/0\n", "\ntile/0/0", "entries/0 ", " entries/0", "entries/ 0", "entries/0\x00", "entries/1_0", "entries/0x1", "entries/1e1", "entries/a", "tile/a/0", "entries/0.p/a", "entries/\u0661", "/tile/0/0", "./tile/0/0", "tile/0/tile/0/0", "entries/entries/0", "tile/entries/0", "tile/\xff/0",
	} {
		wantNoPath(t, path)
	}
}

// What a path looks like, written down once more; the numbers may still be too great.
var pathForm = regexp.MustCompile(`\A(?:entries|tile/(0|[1-9][0-9]*))/(0|[1-9][0-9]*)(?:\.p/([1-3]))?\z`)

func isPath(path string) bool {
	m := pathForm.FindStringSubmatch(path)
	if m == nil {
		return false
	}
	level, _ := new(big.Int).SetString("0"+m[1], 10)
	index, _ := new(big.Int).SetString(m[2], 10)
	return level.Cmp(big.NewInt(20)) <= 0 && index.Cmp(big.NewInt(math.MaxInt)) <= 0
}

func TestParseOfPathsAlmostRight(t *testing.T) {
	good := 0
	for _, right := range []string{"tile/0/0", "tile/1/12.p/3", "tile/20/10", "tile/2/0.p/1", "entries/0", "entries/10.p/2", "entries/" + strconv.Itoa(math.MaxInt)} {
		for _, path := range edits(right, "0123456789/.p+- tenrisl\x00\xff") {
			if !isPath(path) {
				wantNoPath(t, path)
				continue
			}
			good++
			if l, i, w, ok := tiles.Parse(path); !ok || wantName(l, i, w) != path {
				t.Errorf("P8: Parse(%q) = %d, %d, %d, %v", path, l, i, w, ok)
			}
		}
	}
	if good == 0 {
		t.Error("P8: no path was right")
	}
}

// P9

func wantBundle(entries [][]byte) []byte {
	out := []byte{}
	for _, e := range entries {
		out = append(append(out, byte(len(e))), e...)
	}
	return out
}

func sameEntries(a, b [][]byte) bool { return slices.EqualFunc(a, b, bytes.Equal) }

func wantUnbundled(t *testing.T, data []byte, want [][]byte) {
	t.Helper()
	if got, ok := tiles.Unbundle(data); !ok || !sameEntries(got, want) {
		t.Errorf("P9: Unbundle(%q) = %q, %v, want %q", data, got, ok, want)
	}
}

func wantNoBundle(t *testing.T, data []byte) {
	t.Helper()
	if got, ok := tiles.Unbundle(data); ok || got != nil {
		t.Errorf("P9: Unbundle(%q) = %q, %v", data, got, ok)
	}
}

func TestBundleAndUnbundle(t *testing.T) {
	long := strings.Repeat("x", 20)
	for _, c := range []struct {
		texts []string
		want  string
	}{
		{[]string{""}, "\x00"},
		{[]string{"a"}, "\x01a"},
		{[]string{"", ""}, "\x00\x00"},
		{[]string{"", "", "", ""}, "\x00\x00\x00\x00"},
		{[]string{"ab", "", "c"}, "\x02ab\x00\x01c"},
		{[]string{"a", "b", "c", "d"}, "\x01a\x01b\x01c\x01d"},
		{[]string{"\x00", "\x01\x02", "\xff"}, "\x01\x00\x02\x01\x02\x01\xff"},
		{[]string{long}, "\x14" + long},
		{[]string{long, long, long, long}, "\x14" + long + "\x14" + long + "\x14" + long + "\x14" + long},
	} {
		entries := textEntries(c.texts...)
		if got := tiles.Bundle(entries); got == nil || string(got) != c.want {
			t.Errorf("P9: Bundle(%q) = %q, want %q", c.texts, got, c.want)
		}
		wantUnbundled(t, []byte(c.want), entries)
	}
	if got := tiles.Bundle([][]byte{nil}); string(got) != "\x00" {
		t.Errorf("P9: Bundle of a nil entry = %q", got)
	}
}

func TestBundleOfEveryLength(t *testing.T) {
	for count := range 10 {
		for length := range 30 {
			entries := make([][]byte, count)
			for i := range entries {
				entries[i] = bytes.Repeat([]byte{byte(200 + i)}, length)
			}
			data := wantBundle(entries)
			if count < 1 || count > 4 || length > 20 {
				if got := tiles.Bundle(entries); got != nil {
					t.Errorf("P9: Bundle of %d entries of %d bytes = %q", count, length, got)
				}
				wantNoBundle(t, data)
				continue
			}
			if got := tiles.Bundle(entries); got == nil || !bytes.Equal(got, data) {
				t.Errorf("P9: Bundle of %d entries of %d bytes = %q, want %q", count, length, got, data)
			}
			wantUnbundled(t, data, entries)
		}
	}
}

func TestBundleOfOneEntryTooLong(t *testing.T) {
	for _, length := range []int{21, 22, 255, 256, 257, 276, 1 << 16} {
		for place := range 4 {
			entries := someEntries(4)
			entries[place] = make([]byte, length)
			if got := tiles.Bundle(entries); got != nil {
				t.Errorf("P9: Bundle with an entry of %d bytes at %d = %q", length, place, got)
			}
		}
	}
	if tiles.Bundle(nil) != nil || tiles.Bundle([][]byte{}) != nil || tiles.Bundle(make([][]byte, 5)) != nil || tiles.Bundle(make([][]byte, 260)) != nil {
		t.Error("P9: Bundle of no or too many entries is not nil")
	}
}

func TestUnbundleOfWhatIsNoBundle(t *testing.T) {
	long := strings.Repeat("x", 20)
	for _, data := range []string{
		"", "\x01", "\x02a", "\x01a\x01", "\x01a\x02b", "a", "\x14" + long[1:], "\x15" + long + "x", "\x15" + long, "\xff", "\x80",
		"\x00\x00\x00\x00\x00", "\x01a\x01b\x01c\x01d\x01e", "\x01a\x01b\x01c\x01d\x00", "\x01a\x01b\x01c\x01d\x01", "\x00\x00\x00\x00x", "\x14" + long + "\x15" + long + "x",
	} {
		wantNoBundle(t, []byte(data))
	}
	wantNoBundle(t, nil)
	wantNoBundle(t, make([]byte, 1<<20))
	wantNoBundle(t, bytes.Repeat([]byte{255}, 1<<20))
}

// entriesIn reads a bundle from its end, by trying each length that the last entry may have; false, if it can be read in no way as at most so many entries.
func entriesIn(data []byte, most int) ([][]byte, bool) {
	if len(data) == 0 {
		return nil, true
	}
	if most == 0 {
		return nil, false
	}
	for length := 0; length <= 20 && length < len(data); length++ {
		start := len(data) - length
		if int(data[start-1]) != length {
			continue
		}
		if ahead, ok := entriesIn(data[:start-1], most-1); ok {
			return append(ahead, data[start:]), true
		}
	}
	return nil, false
}

func TestUnbundleOfAllShortBytes(t *testing.T) {
	var ask func(data []byte, left int)
	ask = func(data []byte, left int) {
		if want, ok := entriesIn(data, 4); ok && len(want) > 0 {
			wantUnbundled(t, data, want)
		} else {
			wantNoBundle(t, data)
		}
		if left == 0 {
			return
		}
		for _, b := range []byte{0, 1, 2, 3, 255} {
			ask(append(slices.Clone(data), b), left-1)
		}
	}
	ask(nil, 6)
}

func TestUnbundleOfChangedBundles(t *testing.T) {
	long := strings.Repeat("x", 20)
	for _, list := range [][][]byte{textEntries("ab", "", "c"), textEntries(long), textEntries(long, "a", long), textEntries("a", "b", "c", "d")} {
		for _, text := range edits(string(wantBundle(list)), "\x00\x01\x02\x13\x14\x15\xffx") {
			if want, ok := entriesIn([]byte(text), 4); ok && len(want) > 0 {
				wantUnbundled(t, []byte(text), want)
			} else {
				wantNoBundle(t, []byte(text))
			}
		}
	}
}

// P10

// signed puts the fourth line behind any text, so that what is wrong in it is all that is wrong.
func signed(lines, key string) string {
	return fmt.Sprintf("%s%016x\n", lines, wantHash([]byte(key+"\x00"+lines)...))
}

func someTrusted() []api.Trusted {
	var out []api.Trusted
	for _, size := range []int{0, 1, 9, 10, 256, math.MaxInt - 1, math.MaxInt} {
		for _, root := range []api.Hash{{}, wantHash(), wantHash(7), {0, 1, 0, 0, 0, 0, 0x0a, 0xa0}, {255, 254, 253, 252, 0xab, 0xcd, 0xef, 255}} {
			out = append(out, api.Trusted{Size: size, Root: root})
		}
	}
	return out
}

func someKeys() []string {
	return []string{"k", "", "K", "kk", "k\x00", "\x00", "tiles\n", "a long key, longer than any hash", "\xff\xfe"}
}

func wantChecked(t *testing.T, text, key string, want api.Trusted) {
	t.Helper()
	if got, ok := tiles.Check(text, key); !ok || got != want {
		t.Errorf("P10: Check(%q, %q) = %v, %v, want %v", text, key, got, ok, want)
	}
}

func wantNoCheckpoint(t *testing.T, text, key string) {
	t.Helper()
	if got, ok := tiles.Check(text, key); ok || got != (api.Trusted{}) {
		t.Errorf("P10: Check(%q, %q) = %v, %v", text, key, got, ok)
	}
}

func TestSignOfTheExample(t *testing.T) {
	want := "tiles\n0\ncbf29ce484222325\n91ab6fc8d09769c3\n"
	empty := api.Trusted{Size: 0, Root: wantHash()}
	if got := tiles.Sign(empty, "k"); got != want {
		t.Errorf("P10: Sign of the size 0 = %q, want %q", got, want)
	}
	wantChecked(t, want, "k", empty)
}

func TestSignAndCheck(t *testing.T) {
	for _, trusted := range someTrusted() {
		for _, key := range someKeys() {
			want := signed(fmt.Sprintf("tiles\n%d\n%x\n", trusted.Size, trusted.Root), key)
			if got := tiles.Sign(trusted, key); got != want {
				t.Errorf("P10: Sign(%v, %q) = %q, want %q", trusted, key, got, want)
			}
			for _, other := range someKeys() {
				if other == key {
					wantChecked(t, want, key, trusted)
				} else {
					wantNoCheckpoint(t, want, other)
				}
			}
		}
	}
}

func TestCheckOfChangedCheckpoints(t *testing.T) {
	for _, trusted := range someTrusted() {
		right := tiles.Sign(trusted, "k")
		for _, text := range edits(right, "\n\r 0189afAF-+t\x00\xff") {
			if text != right {
				wantNoCheckpoint(t, text, "k")
			}
		}
	}
}

// The fourth line fits in all of these: what is ahead of it is what is wrong.
func TestCheckOfWrongLinesThatAreSigned(t *testing.T) {
	root := "cbf29ce484222325\n"
	wantChecked(t, signed("tiles\n0\n"+root, "k"), "k", api.Trusted{Root: wantHash()})
	for _, size := range []string{
		"", " ", "00", "01", "-0", "+0", "+1", "-1", "-9223372036854775808", "0x1", "1_0", "1e1", "1.0", " 1", "1 ", "1\r", "a", "\u0661", "\x00", "1\n1",
		strconv.Itoa(math.MinInt), aboveInt(), "18446744073709551616", "99999999999999999999999",
	} {
		wantNoCheckpoint(t, signed("tiles\n"+size+"\n"+root, "k"), "k")
	}
	for _, bad := range []string{
		"", "0", "CBF29CE484222325", "Cbf29ce484222325", "cbf29ce48422232", "0cbf29ce484222325", "00cbf29ce484222325", "cbf29ce4842223250", "0xcbf29ce484222325", "+bf29ce484222325", "-bf29ce484222325", " bf29ce484222325", "cbf29ce48422232 ", "cbf2_9ce48422232", "gbf29ce484222325", "cbf29ce484222325\r", "cbf29ce484222325\n", "1cbf29ce484222325", "f", "\x00\x00\x00\x00\x00\x00\x00\x00",
	} {
		wantNoCheckpoint(t, signed("tiles\n0\n"+bad+"\n", "k"), "k")
	}
	for _, lines := range []string{
		"", "\n", "\n\n\n", "tiles\n", "tiles\n0\n", "tile\n0\n" + root, "Tiles\n0\n" + root, "tiles \n0\n" + root, " tiles\n0\n" + root, "tiles\r\n0\n" + root, "\n0\n" + root, "0\n" + root,
		"tiles\n\n0\n" + root, "\ntiles\n0\n" + root, "tiles\n0\n\n" + root, "tiles\n0\n" + root + "\n", "tiles\n0\n" + root + root, "tiles\n0\n" + strings.TrimSpace(root), "tiles 0 " + root, "tiles\n" + root + "0\n",
	} {
		wantNoCheckpoint(t, signed(lines, "k"), "k")
	}
}

func TestCheckOfWrongEnds(t *testing.T) {
	right := tiles.Sign(api.Trusted{Size: 5, Root: wantHash(5)}, "k")
	last := strings.LastIndexByte(right[:len(right)-1], '\n') + 1
	lines, hash := right[:last], right[last:]
	if strings.ToUpper(hash) == hash {
		t.Fatal("P10: this test needs a last line with letters")
	}
	for _, text := range []string{
		"", "\n", lines, lines + "\n", right[:len(right)-1], right + "\n", "\n" + right, right + right, right + " ", lines + "\n" + hash, lines + strings.ToUpper(hash), strings.ToUpper(right),
		lines + "0" + hash, lines + hash[1:], lines + "0x" + hash, strings.ReplaceAll(right, "\n", "\r\n"), strings.ReplaceAll(right, "\n", ""), right[:len(right)-1] + "\r\n", right[:len(right)-1] + "\x00", right + "\x00",
	} {
		wantNoCheckpoint(t, text, "k")
	}
}

func TestCheckpointsTellSizesRootsAndKeysApart(t *testing.T) {
	seen := map[string]bool{}
	for _, trusted := range someTrusted() {
		for _, key := range someKeys() {
			text := tiles.Sign(trusted, key)
			if seen[text] {
				t.Errorf("P10: Sign(%v, %q) = %q, as of others", trusted, key, text)
			}
			seen[text] = true
		}
	}
}

func TestSizesBelowZeroAreNotChecked(t *testing.T) {
	for _, size := range []int{-1, -10, math.MinInt + 1, math.MinInt} {
		wantNoCheckpoint(t, tiles.Sign(api.Trusted{Size: size, Root: wantHash()}, "k"), "k")
	}
}
