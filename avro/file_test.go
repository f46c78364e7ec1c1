package avro

import (
	"math"
	"math/rand"
	"slices"
	"strings"
	"sync"
	"testing"
)

// has looks at what a file has.
func has(t *testing.T, f *File, safe, written string) {
	t.Helper()
	if s, w := f.Bytes(); s != safe || w != written {
		t.Errorf("got %q and %q, want %q and %q", s, w, safe, written)
	}
}

// well looks that a call went well.
func well(t *testing.T, err error) {
	t.Helper()
	if err != nil {
		t.Errorf("got %v, want nothing", err)
	}
}

// isDown looks that a file is down: no operation does anything.
func isDown(t *testing.T, f *File) {
	t.Helper()
	safe, written := f.Bytes()
	for _, err := range []error{f.Write("x"), f.Sync(), f.Replace("y"), f.Write("")} {
		if reasonOf(t, err) != ErrDown {
			t.Errorf("got %v, want ErrDown", err)
		}
	}
	has(t, f, safe, written)
}

// P15: what is safe, and what is only written.
func TestFile(t *testing.T) {
	f := NewFile()
	has(t, f, "", "")
	well(t, f.Write("ab"))
	well(t, f.Write(""))
	well(t, f.Write("\xff\x00"))
	has(t, f, "", "ab\xff\x00")
	well(t, f.Sync())
	has(t, f, "ab\xff\x00", "")
	well(t, f.Write("c"))
	has(t, f, "ab\xff\x00", "c")
	well(t, f.Sync())
	well(t, f.Sync())
	has(t, f, "ab\xff\x00c", "")
	well(t, f.Write("d"))
	well(t, f.Replace("z"))
	has(t, f, "z", "")
	well(t, f.Write("e"))
	well(t, f.Sync())
	has(t, f, "ze", "")
	well(t, f.Replace(""))
	has(t, f, "", "")
}

// P15: of what is only written as much is kept as is said, and as there is.
func TestFileCrash(t *testing.T) {
	for keep, want := range map[int]string{math.MinInt: "s", -1: "s", 0: "s", 1: "sa", 2: "sab", 3: "sabc", 4: "sabc", math.MaxInt: "sabc"} {
		f := NewFile()
		well(t, f.Replace("s"))
		well(t, f.Write("ab"))
		well(t, f.Write("c"))
		f.Crash(keep)
		has(t, f, want, "")
		f.Crash(keep)
		has(t, f, want, "")
		well(t, f.Write("d"))
		has(t, f, want, "d")
		well(t, f.Sync())
		has(t, f, want+"d", "")
	}
}

// P15: the n-th operation from now on goes down with the file, whichever of the three it is; it does nothing.
func TestFileFuse(t *testing.T) {
	for what, do := range map[string]func(*File) error{
		"Write":   func(f *File) error { return f.Write("x") },
		"Sync":    func(f *File) error { return f.Sync() },
		"Replace": func(f *File) error { return f.Replace("y") },
	} {
		for n := 1; n < 5; n++ {
			f := NewFile()
			well(t, f.Replace("s"))
			well(t, f.Write("w"))
			f.Fuse(n)
			for range n - 1 {
				f.Bytes() // is no operation
				well(t, do(f))
			}
			safe, written := f.Bytes()
			if err := do(f); reasonOf(t, err) != ErrDown {
				t.Errorf("%s: operation %d: %v", what, n, err)
			}
			has(t, f, safe, written)
			isDown(t, f)
		}
	}
}

// P15: no fuse is lit: by 0 and less, also where one was; a later one holds in the place of an earlier one.
func TestFileNoFuse(t *testing.T) {
	for _, n := range []int{0, -1, math.MinInt, math.MaxInt, 4} {
		f := NewFile()
		f.Fuse(1)
		f.Fuse(n)
		well(t, f.Write("a"))
		well(t, f.Sync())
		well(t, f.Write("b"))
		has(t, f, "a", "b")
	}
	f := NewFile()
	f.Fuse(9)
	f.Fuse(1)
	isDown(t, f)
	f = NewFile()
	f.Fuse(2)
	well(t, f.Write("a"))
	f.Fuse(2) // from now on
	well(t, f.Write("b"))
	isDown(t, f)
}

// P15: a file that is down stays so, whatever fuse is lit or not; with a crash it is up, and no fuse is lit.
func TestFileDown(t *testing.T) {
	for _, n := range []int{0, -1, 1, 2, 5, math.MaxInt} {
		f := NewFile()
		well(t, f.Write("abc"))
		f.Fuse(1)
		isDown(t, f)
		f.Fuse(n)
		isDown(t, f)
		f.Crash(2)
		has(t, f, "ab", "")
		for range 6 {
			well(t, f.Write("d"))
		}
		has(t, f, "ab", "dddddd")
	}
	f := NewFile()
	f.Fuse(1)
	f.Crash(0)
	well(t, f.Write("a"))
	has(t, f, "", "a")
}

// P2: files know nothing of each other.
func TestFilesAreApart(t *testing.T) {
	one, other := NewFile(), NewFile()
	one.Fuse(1)
	well(t, other.Write("a"))
	isDown(t, one)
	well(t, other.Sync())
	one.Crash(0)
	has(t, one, "", "")
	has(t, other, "a", "")
}

// P1: what NewFile did not make does no harm.
func TestNoFile(t *testing.T) {
	var f *File
	f.Fuse(1)
	f.Crash(1)
	isDown(t, f)
	if w, err := Create(f, `"int"`, 0, 1, sixteenBytes); w != nil || reasonOf(t, err) != ErrDown {
		t.Errorf("Create: %v, %v", w, err)
	}
}

// P15: any operations, against lists of pieces.
func TestFileAgainstLists(t *testing.T) {
	r := rand.New(rand.NewSource(16))
	const noFuse, down = -1, 0
	for range 300 {
		f := NewFile()
		var safe, written []string
		fuse := noFuse
		operate := func(err error, do func()) {
			if fuse > 0 {
				fuse--
			}
			if (fuse == down) != (reasonOf(t, err) == ErrDown) {
				t.Fatalf("got %v; the fuse has %d left", err, fuse)
			}
			if fuse != down {
				do()
			}
		}
		for range 40 {
			text := random(r, r.Intn(4), 'a', 26)
			switch r.Intn(6) {
			case 0, 1:
				operate(f.Write(text), func() { written = append(written, text) })
			case 2:
				operate(f.Sync(), func() { safe, written = append(safe, written...), nil })
			case 3:
				operate(f.Replace(text), func() { safe, written = []string{text}, nil })
			case 4:
				n := r.Intn(8) - 1
				f.Fuse(n)
				switch {
				case fuse != down && n > 0:
					fuse = n
				case fuse != down:
					fuse = noFuse
				}
			case 5:
				all := strings.Join(written, "")
				n := r.Intn(len(all)+4) - 2
				f.Crash(n)
				safe, written, fuse = append(safe, all[:min(max(n, 0), len(all))]), nil, noFuse
			}
			has(t, f, strings.Join(safe, ""), strings.Join(written, ""))
		}
	}
}

// P15: an operation has the file for itself, and leaves it to others, done or not.
func TestFileLock(t *testing.T) {
	f := NewFile()
	isFree := func() bool {
		if !f.lock.TryLock() {
			return false
		}
		f.lock.Unlock()
		return true
	}
	f.operate(func() {
		if isFree() {
			t.Error("within an operation the file is another's, too")
		}
	})
	f.Fuse(1)
	for _, do := range []func(){func() { f.Bytes() }, func() { f.Sync() }, func() { f.Fuse(2) }, func() { f.Crash(0) }, func() { f.Write("a") }} {
		do()
		if !isFree() {
			t.Fatal("the file is not left to others")
		}
	}
}

// P15: operations at the same time: each is done whole.
func TestFileAtTheSameTime(t *testing.T) {
	f := NewFile()
	var all sync.WaitGroup
	for i := range 8 {
		all.Go(func() {
			for range 500 {
				f.Write(strings.Repeat(string(rune('a'+i)), 8))
				f.Sync()
				f.Bytes()
			}
		})
	}
	all.Wait()
	safe, _ := f.Bytes()
	counts := map[string]int{}
	for piece := range slices.Chunk([]byte(safe), 8) {
		counts[string(piece)]++
	}
	for i := range 8 {
		if piece := strings.Repeat(string(rune('a'+i)), 8); counts[piece] != 500 {
			t.Errorf("%s: %d times", piece, counts[piece])
		}
	}
}
