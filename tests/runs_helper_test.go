package tests

import (
	"fmt"
	"math"
	"math/big"
	"math/rand/v2"
	"regexp"
	"slices"
	"strings"
	"testing"

	"loop.example/g00409/impl"
)

// mostAside is the greatest w and h that a picture may have.
const mostAside = 10

// likes are runs, each told by how many and of which value.
func likes(pairs ...int) []impl.Run {
	l := []impl.Run{}
	for i := 0; i < len(pairs); i += 2 {
		l = append(l, impl.Run{Many: pairs[i], Value: pairs[i+1]})
	}
	return l
}

func alikeRow(n, value int) []int {
	return slices.Repeat([]int{value}, n)
}

// unlikeRow has only bytes that are unlike their neighbours.
func unlikeRow(n int) []int {
	row := make([]int, n)
	for i := range row {
		row[i] = (i*101 + 255) % 256
	}
	return row
}

// someRow has often the same byte again.
func someRow(r *rand.Rand, n int) []int {
	row := make([]int, n)
	for i := range row {
		row[i] = []int{0, 255, 1, 254, r.IntN(256)}[r.IntN(5)]
		if i > 0 && r.IntN(2) == 0 {
			row[i] = row[i-1]
		}
	}
	return row
}

// rowsOver are all rows of at most n bytes that are among the values.
func rowsOver(n int, values ...int) [][]int {
	all := [][]int{{}}
	for from := 0; len(all[from]) < n; from++ {
		for _, v := range values {
			all = append(all, append(slices.Clone(all[from]), v))
		}
	}
	return all
}

func plainRuns(row []int) []impl.Run {
	l := []impl.Run{}
	for from := 0; from < len(row); {
		to := from + 1
		for to < len(row) && row[to] == row[from] {
			to++
		}
		l = append(l, impl.Run{Value: row[from], Many: to - from})
		from = to
	}
	return l
}

func plainRow(l []impl.Run) []int {
	row := []int{}
	for _, run := range l {
		row = append(row, alikeRow(run.Many, run.Value)...)
	}
	return row
}

func plainText(l []impl.Run) string {
	s := ""
	for _, run := range l {
		s += fmt.Sprintf(",%dx%d", run.Many, run.Value)
	}
	return strings.TrimPrefix(s, ",")
}

func isPlainByte(n int) bool {
	return int(uint8(n)) == n
}

func isPlainRow(row []int) bool {
	return len(row) <= impl.MaxRow && !slices.ContainsFunc(row, func(n int) bool { return !isPlainByte(n) })
}

// isPlainRuns sums up in great numbers, which do not wrap round.
func isPlainRuns(l []impl.Run) bool {
	all := new(big.Int)
	for i, run := range l {
		all.Add(all, big.NewInt(int64(run.Many)))
		if run.Many <= 0 || !isPlainByte(run.Value) || i+1 < len(l) && l[i+1].Value == run.Value {
			return false
		}
	}
	return all.Cmp(big.NewInt(impl.MaxRow)) <= 0
}

var shapeOfRuns = regexp.MustCompile(`^[0-9]{1,3}x[0-9]{1,3}(,[0-9]{1,3}x[0-9]{1,3})*$`)

// plainRead takes only what is told again just so.
func plainRead(s string) ([]impl.Run, bool) {
	l := []impl.Run{}
	if s == "" {
		return l, true
	}
	if !shapeOfRuns.MatchString(s) {
		return nil, false
	}
	for part := range strings.SplitSeq(s, ",") {
		run := impl.Run{}
		if n, err := fmt.Sscanf(part, "%dx%d", &run.Many, &run.Value); n != 2 || err != nil {
			return nil, false
		}
		l = append(l, run)
	}
	return l, isPlainRuns(l) && plainText(l) == s
}

func plainHead(w, h int) string {
	return fmt.Sprintf("P5\n%d %d\n255\n", w, h)
}

func isPlainPicture(w, h int, bytes []int) bool {
	sides := []int{1, 2, 3, 4, 5, 6, 7, 8, 9, 10}
	return slices.Contains(sides, w) && slices.Contains(sides, h) && len(bytes) == w*h && isPlainRow(bytes)
}

func plainPicture(w, h int, bytes []int) string {
	all := []byte(plainHead(w, h))
	for _, b := range bytes {
		all = append(all, uint8(b))
	}
	return string(all)
}

// plainReadPicture tries each head there is: no number is read.
func plainReadPicture(s string) (int, int, []int, bool) {
	for w := 1; w <= mostAside; w++ {
		for h := 1; h <= mostAside; h++ {
			if rest, is := strings.CutPrefix(s, plainHead(w, h)); is && len(rest) == w*h {
				bytes := []int{}
				for _, b := range []byte(rest) {
					bytes = append(bytes, int(b))
				}
				return w, h, bytes, true
			}
		}
	}
	return 0, 0, nil, false
}

func wantRuns(t *testing.T, what string, args any, l []impl.Run, ok bool, want []impl.Run) {
	t.Helper()
	if !ok || !slices.Equal(l, want) {
		t.Fatalf("%s %v: %v %v, want %v", what, args, l, ok, want)
	}
}

func wantText(t *testing.T, what string, args any, s string, ok bool, want string) {
	t.Helper()
	if !ok || s != want {
		t.Fatalf("%s %v: %q %v, want %q", what, args, s, ok, want)
	}
}

// checkRow wants a row's runs, or the zero answer where it is none; it answers whether they are told.
func checkRow(t *testing.T, row []int) bool {
	t.Helper()
	l, ok := impl.RunsOf(row)
	if !isPlainRow(row) {
		if ok || len(l) > 0 {
			t.Fatalf("RunsOf %v: %v %v, want the zero answer", row, l, ok)
		}
		return false
	}
	wantRuns(t, "RunsOf", row, l, ok, plainRuns(row))
	return true
}

// checkRuns wants what runs tell, or the zero answers where they are not good; it answers whether they are.
func checkRuns(t *testing.T, l []impl.Run) bool {
	t.Helper()
	good := isPlainRuns(l)
	if impl.GoodRuns(l) != good {
		t.Fatalf("GoodRuns %v: not %v", l, good)
	}
	row, ok := impl.FromRuns(l)
	s, is := impl.RunsText(l)
	if !good {
		if ok || len(row) > 0 || is || s != "" {
			t.Fatalf("of %v: %v %v, %q %v, want the zero answers", l, row, ok, s, is)
		}
		return false
	}
	wantInts(t, "FromRuns", l, row, ok, plainRow(l))
	wantText(t, "RunsText", l, s, is, plainText(l))
	return true
}

// checkRead wants the runs with a text, or the zero answer where there are none; it answers whether they are told.
func checkRead(t *testing.T, s string) bool {
	t.Helper()
	l, ok := impl.ReadRuns(s)
	want, told := plainRead(s)
	if !told {
		if ok || len(l) > 0 {
			t.Fatalf("ReadRuns %q: %v %v, want the zero answer", s, l, ok)
		}
		return false
	}
	wantRuns(t, "ReadRuns", s, l, ok, want)
	return true
}

// checkJoin wants the runs of both rows one behind the other, or the zero answer where there is no such row; it answers whether they are told.
func checkJoin(t *testing.T, a, b []impl.Run) bool {
	t.Helper()
	l, ok := impl.JoinRuns(a, b)
	if !isPlainRuns(a) || !isPlainRuns(b) || len(plainRow(a))+len(plainRow(b)) > impl.MaxRow {
		if ok || len(l) > 0 {
			t.Fatalf("JoinRuns %v %v: %v %v, want the zero answer", a, b, l, ok)
		}
		return false
	}
	wantRuns(t, "JoinRuns", []any{a, b}, l, ok, plainRuns(slices.Concat(plainRow(a), plainRow(b))))
	return true
}

// checkPicture wants a picture's text, or the zero answer where it is none; it answers whether it is told.
func checkPicture(t *testing.T, w, h int, bytes []int) bool {
	t.Helper()
	s, ok := impl.PictureBytes(w, h, bytes)
	if !isPlainPicture(w, h, bytes) {
		if ok || s != "" {
			t.Fatalf("PictureBytes %d %d %v: %q %v, want the zero answer", w, h, bytes, s, ok)
		}
		return false
	}
	wantText(t, "PictureBytes", []any{w, h, bytes}, s, ok, plainPicture(w, h, bytes))
	return true
}

// checkReadPicture wants the picture with a text, or the zero answer where there is none; it answers whether it is told.
func checkReadPicture(t *testing.T, s string) bool {
	t.Helper()
	w, h, bytes, ok := impl.ReadPicture(s)
	wantW, wantH, want, told := plainReadPicture(s)
	if w != wantW || h != wantH || ok != told || !slices.Equal(bytes, want) {
		t.Fatalf("ReadPicture %q: %d %d %v %v, want %d %d %v %v", s, w, h, bytes, ok, wantW, wantH, want, told)
	}
	return told
}

// textsNear are all texts that come of one by another byte, one byte more, or one less, at each place, and by cutting it.
func textsNear(s string, bytes []byte) []string {
	all := []string{s}
	for at := range len(s) + 1 {
		all = append(all, s[:at], s[at:])
		for _, b := range bytes {
			all = append(all, s[:at]+string([]byte{b})+s[at:])
			if at < len(s) {
				all = append(all, s[:at]+string([]byte{b})+s[at+1:])
			}
		}
		if at < len(s) {
			all = append(all, s[:at]+s[at+1:])
		}
	}
	return all
}

// allBytes are those that a text may have.
func allBytes() []byte {
	all := make([]byte, 256)
	for i := range all {
		all[i] = byte(i)
	}
	return all
}

// wrongRuns are just not good, each for one reason.
func wrongRuns() [][]impl.Run {
	all := [][]impl.Run{
		// Two next to each other with one Value.
		likes(1, 5, 1, 5), likes(2, 0, 3, 0), likes(1, 255, 98, 255), likes(1, 1, 1, 2, 1, 2), likes(1, 2, 1, 2, 1, 1), likes(50, 7, 50, 7),
		// All Many together one more than MaxRow.
		likes(impl.MaxRow, 0, 1, 1), likes(1, 0, impl.MaxRow, 1), likes(51, 0, 50, 255), likes(33, 1, 34, 2, 34, 3), plainRuns(unlikeRow(impl.MaxRow + 1)), plainRuns(unlikeRow(3000)),
		// All Many together wrap round to a number that would do.
		likes(math.MaxInt, 1, math.MaxInt, 2, 3, 1), likes(3, 1, math.MaxInt, 2, math.MaxInt, 1), likes(math.MaxInt, 1, math.MaxInt, 2, 2, 1, 100, 2),
		likes(1<<62, 1, 1<<62, 2, 1<<62, 1, 1<<62, 2, 5, 1), likes(math.MaxInt, 0, 1, 1), likes(1, 0, math.MaxInt, 1), likes(math.MinInt, 0, math.MinInt, 1, 4, 2), likes(math.MaxInt, 0, math.MinInt, 1, 9, 2),
		// What is too few for one makes up for what is too many for another.
		likes(-1, 0, 2, 1), likes(101, 0, -1, 1), likes(0, 0, 1, 1), likes(1, 0, 0, 1), likes(1, 0, 0, 1, 1, 0),
	}
	for _, many := range []int{0, -1, -2, impl.MaxRow + 1, 2 * impl.MaxRow, 1 << 32, -1 << 32, math.MinInt, math.MinInt + 1, math.MaxInt, math.MaxInt - 1} {
		all = append(all, likes(many, 7), likes(many, 0, 3, 8), likes(3, 8, many, 0), likes(3, 8, many, 255, 3, 8))
	}
	for _, value := range []int{-1, 256, -255, -256, 511, 512, 1000, 1 << 32, -1 << 32, math.MinInt, math.MinInt + 1, math.MaxInt, math.MaxInt - 1} {
		all = append(all, likes(1, value), likes(impl.MaxRow, value), likes(2, value, 3, 8), likes(3, 8, 2, value), likes(3, 8, 1, value, 3, 8))
	}
	return all
}

// edgeRuns are good, and as few, as many, as small and as great as may be.
func edgeRuns() [][]impl.Run {
	return [][]impl.Run{
		nil, {}, likes(1, 0), likes(1, 255), likes(1, 1), likes(1, 254), likes(impl.MaxRow, 0), likes(impl.MaxRow, 255), likes(impl.MaxRow-1, 0, 1, 255), likes(1, 255, impl.MaxRow-1, 0),
		likes(50, 255, 50, 0), likes(1, 7, 1, 8, 1, 7), likes(9, 0, 1, 5, 90, 0), likes(10, 10, 10, 100, 10, 10), plainRuns(unlikeRow(impl.MaxRow)), plainRuns(unlikeRow(impl.MaxRow - 1)), plainRuns(slices.Concat(unlikeRow(20), alikeRow(60, 9), unlikeRow(20))),
	}
}

// wrongRows are just none, each for one reason.
func wrongRows() [][]int {
	all := [][]int{alikeRow(impl.MaxRow+1, 0), alikeRow(impl.MaxRow+1, 255), unlikeRow(impl.MaxRow + 1), alikeRow(3000, 7), unlikeRow(3000)}
	for _, wrong := range wrongBytes() {
		all = append(all, []int{wrong}, []int{wrong, 0}, []int{255, wrong}, []int{7, wrong, 7}, []int{wrong, wrong}, append(alikeRow(impl.MaxRow-1, 0), wrong))
	}
	return all
}

func wrongBytes() []int {
	return []int{-1, 256, -255, -256, 511, 512, 1 << 32, -1 << 32, math.MinInt, math.MinInt + 1, math.MaxInt, math.MaxInt - 1}
}

// somePicture is one with as many bytes as it says.
func somePicture(r *rand.Rand) (int, int, []int) {
	w, h := 1+r.IntN(mostAside), 1+r.IntN(mostAside)
	return w, h, someRow(r, w*h)
}
