package disk_test

import (
	"fmt"
	"math"
	"slices"
	"strings"
	"sync"
	"testing"
	"unsafe"

	"padlock/api"
	"padlock/disk"
)

const size = 64 // bytes of a sector

var zeros = full(0)

// nothing is the plan of a crash that keeps nothing, also not of write 0.
var nothing = disk.Plan{Torn: -1}

// all is the plan of a crash that keeps the first 64 writes.
var all = disk.Plan{Keep: math.MaxUint64, Torn: -1}

// full returns a sector of one byte.
func full(b byte) string { return strings.Repeat(string([]byte{b}), size) }

// rising returns a sector whose bytes differ, from a first one on.
func rising(first byte) string {
	b := make([]byte, size)
	for i := range b {
		b[i] = first + byte(i)
	}
	return string(b)
}

// noise returns a function that returns numbers of no pattern, the same in every run.
func noise(seed uint64) func() uint64 {
	return func() uint64 {
		seed ^= seed << 13
		seed ^= seed >> 7
		seed ^= seed << 17
		return seed
	}
}

// made returns a new Disk.
func made(t *testing.T, sectors int) *disk.Disk {
	t.Helper()
	d, bad := disk.New(sectors)
	if d == nil || bad != api.OK {
		t.Fatalf("New(%d) = %v, %d", sectors, d, bad)
	}
	return d
}

// write writes a sector, which must succeed.
func write(t *testing.T, d *disk.Disk, n int, s string) {
	t.Helper()
	if bad := d.Write(n, s); bad != api.OK {
		t.Fatalf("Write(%d, %q) = %d", n, s, bad)
	}
}

// syncAll makes all writes durable.
func syncAll(t *testing.T, d *disk.Disk) {
	t.Helper()
	if bad := d.Sync(); bad != api.OK {
		t.Fatalf("Sync() = %d", bad)
	}
}

// crash crashes a Disk.
func crash(t *testing.T, d *disk.Disk, p disk.Plan) {
	t.Helper()
	if bad := d.Crash(p); bad != api.OK {
		t.Fatalf("Crash(%v) = %d", p, bad)
	}
}

// reads fails unless the first sectors are those that are wanted.
func reads(t *testing.T, d *disk.Disk, want ...string) {
	t.Helper()
	for n, s := range want {
		if got, bad := d.Read(n); got != s || bad != api.OK {
			t.Errorf("Read(%d) = %q, %d, not %q", n, got, bad, s)
		}
	}
}

// counts fails unless there are as many pending writes, and writes, as are wanted.
func counts(t *testing.T, d *disk.Disk, pending, writes int) {
	t.Helper()
	if got := d.Pending(); got != pending {
		t.Errorf("Pending() = %d, not %d", got, pending)
	}
	if got := d.Writes(); got != writes {
		t.Errorf("Writes() = %d, not %d", got, writes)
	}
}

// event is a call that changes a Disk.
type event struct {
	kind byte // 'w', 's' or 'c'
	n    int
	s    string
	p    disk.Plan
}

// story is all that was done with a Disk of some sectors.
type story struct {
	sectors int
	events  []event
}

// with returns the story with one more event.
func (y story) with(e event) story {
	return story{y.sectors, append(slices.Clone(y.events), e)}
}

// end returns what the chapter says about the Disk behind its story: its durable
// sectors, the pending writes, and the number of writes.
func (y story) end() (durable []string, pending []event, writes int) {
	durable = slices.Repeat([]string{zeros}, y.sectors)
	for _, e := range y.events {
		switch e.kind {
		case 'w':
			pending = append(pending, e)
			writes++
		case 's':
			for _, w := range pending {
				durable[w.n] = w.s
			}
			pending = nil
		case 'c':
			crashed(durable, pending, e.p)
			pending = nil
		}
	}
	return durable, pending, writes
}

// crashed is the chapter's definition of what a crash applies.
func crashed(durable []string, pending []event, p disk.Plan) {
	for number, w := range pending {
		switch {
		case number == p.Torn && p.Cut >= size:
			durable[w.n] = w.s
		case number == p.Torn && p.Cut > 0:
			durable[w.n] = w.s[:p.Cut] + durable[w.n][p.Cut:]
		case number != p.Torn && number < 64 && bits(p.Keep)[number]:
			durable[w.n] = w.s
		}
	}
}

// bits returns the bits of a number, the least significant one first.
func bits(n uint64) (l [64]bool) {
	for i := range l {
		l[i] = n%2 == 1
		n /= 2
	}
	return l
}

// read returns the sectors as they are read.
func read(durable []string, pending []event) []string {
	now := slices.Clone(durable)
	for _, w := range pending {
		now[w.n] = w.s
	}
	return now
}

// do performs an event.
func do(t *testing.T, d *disk.Disk, e event) {
	t.Helper()
	switch e.kind {
	case 'w':
		write(t, d, e.n, e.s)
	case 's':
		syncAll(t, d)
	case 'c':
		crash(t, d, e.p)
	}
}

// agrees fails unless the Disk is as its story says.
func agrees(t *testing.T, d *disk.Disk, y story) {
	t.Helper()
	durable, pending, writes := y.end()
	if d.Size() != y.sectors {
		t.Errorf("Size() = %d, not %d", d.Size(), y.sectors)
	}
	reads(t, d, read(durable, pending)...)
	counts(t, d, len(pending), writes)
	if t.Failed() {
		t.Fatalf("after %v", y)
	}
}

// P11.1: New of the edges, and of fewer than none.
func TestNew(t *testing.T) {
	for _, sectors := range []int{1, 2, 3, 42, 64, 4095, 4096} {
		d := made(t, sectors)
		if got := d.Size(); got != sectors {
			t.Errorf("Size of New(%d) = %d", sectors, got)
		}
		counts(t, d, 0, 0)
		for n := range sectors {
			if s, bad := d.Read(n); s != zeros || bad != api.OK {
				t.Fatalf("New(%d): Read(%d) = %q, %d", sectors, n, s, bad)
			}
		}
		if s, bad := d.Read(sectors); s != "" || bad != api.ErrRange {
			t.Errorf("New(%d): Read(%d) = %q, %d", sectors, sectors, s, bad)
		}
	}
	for _, sectors := range []int{0, -1, -2, -4096, math.MinInt, 4097, 4098, 8192, 65536, math.MaxInt32, math.MaxInt} {
		if d, bad := disk.New(sectors); d != nil || bad != api.ErrArg {
			t.Errorf("New(%d) = %v, %d", sectors, d, bad)
		}
	}
}

// P11.1: two new Disks are independent of each other.
func TestNewIsAnother(t *testing.T) {
	a, b := made(t, 2), made(t, 2)
	write(t, a, 0, full('a'))
	syncAll(t, a)
	write(t, a, 1, full('b'))
	reads(t, b, zeros, zeros)
	counts(t, b, 0, 0)
	reads(t, made(t, 2), zeros, zeros)
}

// P11.1: Size stays what it is.
func TestSize(t *testing.T) {
	d := made(t, 5)
	for _, e := range []event{{kind: 'w', n: 4, s: full('a')}, {kind: 's'}, {kind: 'w', s: full('b')}, {kind: 'c', p: all}} {
		do(t, d, e)
		if got := d.Size(); got != 5 {
			t.Errorf("Size() = %d after %c", got, e.kind)
		}
	}
}

// P11.2: Read and Write of each sector, and of those that there aren't.
func TestReadAndWrite(t *testing.T) {
	for _, sectors := range []int{1, 2, 7, 4096} {
		d := made(t, sectors)
		last := sectors - 1
		write(t, d, last, full('z'))
		if s, bad := d.Read(last); s != full('z') || bad != api.OK {
			t.Errorf("Read(%d) of %d = %q, %d", last, sectors, s, bad)
		}
		write(t, d, 0, full('a'))
		if s, bad := d.Read(0); s != full('a') || bad != api.OK {
			t.Errorf("Read(0) of %d = %q, %d", sectors, s, bad)
		}
		for _, n := range []int{sectors, sectors + 1, sectors + 4096, -1, -2, -sectors, math.MaxInt32, math.MaxInt, math.MinInt} {
			if s, bad := d.Read(n); s != "" || bad != api.ErrRange {
				t.Errorf("Read(%d) of %d = %q, %d", n, sectors, s, bad)
			}
			if bad := d.Write(n, full('b')); bad != api.ErrRange {
				t.Errorf("Write(%d) of %d = %d", n, sectors, bad)
			}
		}
		counts(t, d, 2, 2)
	}
}

// P11.2: a Write changes its sector only, and the newest one counts.
func TestWrite(t *testing.T) {
	d := made(t, 4)
	want := []string{zeros, zeros, zeros, zeros}
	for i, n := range []int{2, 0, 2, 2, 3, 0, 2, 3} {
		want[n] = rising(byte(40 * i))
		write(t, d, n, want[n])
		reads(t, d, want...)
		counts(t, d, i+1, i+1)
	}
	write(t, d, 2, zeros)
	reads(t, d, want[0], zeros, zeros, want[3])
	write(t, d, 2, zeros)
	counts(t, d, 10, 10)
	syncAll(t, d)
	write(t, d, 0, full('n'))
	reads(t, d, full('n'), zeros, zeros, want[3])
}

// P11.2: any bytes can be written.
func TestWriteOfAnyBytes(t *testing.T) {
	d := made(t, 4)
	next := noise(11)
	b := make([]byte, 4*size)
	for i := range b {
		b[i] = byte(i)
	}
	for range 100 {
		var want []string
		for n := range 4 {
			want = append(want, string(b[n*size:(n+1)*size]))
			write(t, d, n, want[n])
		}
		reads(t, d, want...)
		syncAll(t, d)
		reads(t, d, want...)
		for i := range b {
			b[i] = byte(next() >> 32)
		}
	}
}

// P11.2: Write of texts of other lengths, also where there is no such sector.
func TestWriteFails(t *testing.T) {
	d := made(t, 2)
	write(t, d, 0, full('a'))
	syncAll(t, d)
	write(t, d, 0, full('b'))
	for _, length := range []int{0, 1, 32, 48, 62, 63, 65, 66, 127, 128, 129, 65535, 1 << 20} {
		s := strings.Repeat("c", length)
		for n, want := range map[int]api.Errno{0: api.ErrArg, 1: api.ErrArg, 2: api.ErrRange, -1: api.ErrRange, math.MaxInt: api.ErrRange, math.MinInt: api.ErrRange} {
			if bad := d.Write(n, s); bad != want {
				t.Errorf("Write(%d) of %d bytes = %d, not %d", n, length, bad, want)
			}
		}
	}
	for _, n := range []int{2, -1} {
		if bad := d.Write(n, full('c')); bad != api.ErrRange {
			t.Errorf("Write(%d) = %d", n, bad)
		}
	}
	reads(t, d, full('b'), zeros)
	counts(t, d, 1, 2)
}

// P11.2: what was written, and what was read, is apart from what the Disk has.
func TestTextsAreNew(t *testing.T) {
	d := made(t, 1)
	b := []byte(full('a'))
	write(t, d, 0, unsafe.String(&b[0], len(b)))
	copy(b, full('b'))
	reads(t, d, full('a'))
	crash(t, d, all)
	reads(t, d, full('a'))
	old, _ := d.Read(0)
	write(t, d, 0, full('c'))
	crash(t, d, disk.Plan{Torn: 0, Cut: 9})
	write(t, d, 0, full('d'))
	syncAll(t, d)
	if old != full('a') {
		t.Errorf("what was read became %q", old)
	}
}

// P11.3: Sync makes durable what was written before it, and nothing else.
func TestSync(t *testing.T) {
	d := made(t, 3)
	syncAll(t, d)
	counts(t, d, 0, 0)
	reads(t, d, zeros, zeros, zeros)
	write(t, d, 0, full('a'))
	write(t, d, 1, full('b'))
	write(t, d, 0, full('c'))
	counts(t, d, 3, 3)
	syncAll(t, d)
	counts(t, d, 0, 3)
	reads(t, d, full('c'), full('b'), zeros)
	write(t, d, 1, full('d'))
	write(t, d, 2, full('e'))
	counts(t, d, 2, 5)
	reads(t, d, full('c'), full('d'), full('e'))
	crash(t, d, nothing)
	counts(t, d, 0, 5)
	reads(t, d, full('c'), full('b'), zeros)
	syncAll(t, d)
	syncAll(t, d)
	counts(t, d, 0, 5)
	reads(t, d, full('c'), full('b'), zeros)
}

// P11.3: Sync of more writes than a plan has bits, of all sectors of the greatest Disk.
func TestSyncOfMany(t *testing.T) {
	d := made(t, 4096)
	var want []string
	for n := range 4096 {
		write(t, d, n, full('x'))
		want = append(want, rising(byte(n)))
	}
	for n := range 4096 {
		write(t, d, 4095-n, want[4095-n])
	}
	counts(t, d, 8192, 8192)
	syncAll(t, d)
	counts(t, d, 0, 8192)
	reads(t, d, want...)
	// Only a crash that takes other writes back shows what is durable.
	for n := range 4096 {
		write(t, d, n, full('y'))
	}
	crash(t, d, nothing)
	counts(t, d, 0, 3*4096)
	reads(t, d, want...)
}

// P11.3: Writes and Pending behind writes that were refused, Sync and Crash.
func TestCounts(t *testing.T) {
	d := made(t, 2)
	pending, writes := 0, 0
	for round := range 5 {
		for i := range 40 {
			write(t, d, i%2, full(byte(i)))
			pending, writes = pending+1, writes+1
			counts(t, d, pending, writes)
			d.Write(2, full('x'))
			d.Write(-1, full('x'))
			d.Write(0, full('x')[1:])
			d.Write(1, "")
			d.Write(2, "")
			d.Read(0)
			d.Read(2)
			counts(t, d, pending, writes)
		}
		if round%2 == 0 {
			syncAll(t, d)
		} else {
			crash(t, d, all)
		}
		pending = 0
		counts(t, d, pending, writes)
		if round == 2 {
			crash(t, d, nothing)
			syncAll(t, d)
			counts(t, d, pending, writes)
		}
	}
}

// P11.4: the chapter's example.
func TestCrashOfExample(t *testing.T) {
	d := made(t, 2)
	write(t, d, 0, full('a'))
	write(t, d, 1, full('b'))
	crash(t, d, disk.Plan{})
	reads(t, d, zeros, zeros)
	counts(t, d, 0, 2)

	write(t, d, 0, full('a'))
	syncAll(t, d)
	write(t, d, 0, full('b'))
	crash(t, d, disk.Plan{})
	reads(t, d, full('a'), zeros)
}

// P11.4: plans for four writes, the first and the third to one sector.
func TestCrash(t *testing.T) {
	was, a, b, c, e := rising(0), rising(50), rising(100), rising(150), rising(200)
	cases := []struct {
		p    disk.Plan
		want []string
	}{
		{disk.Plan{Torn: -1}, []string{was, was, zeros}},
		{disk.Plan{Torn: -1, Cut: 64}, []string{was, was, zeros}},
		{disk.Plan{Torn: 4, Cut: 64}, []string{was, was, zeros}},
		{disk.Plan{Torn: math.MinInt, Cut: 64}, []string{was, was, zeros}},
		{disk.Plan{Torn: math.MaxInt, Cut: 64}, []string{was, was, zeros}},
		{disk.Plan{Torn: -64, Keep: 15, Cut: 1}, []string{c, b, e}},
		{disk.Plan{Torn: 64, Keep: 15, Cut: 1}, []string{c, b, e}},
		{disk.Plan{Torn: 1 << 32, Keep: 15, Cut: 1}, []string{c, b, e}},
		{disk.Plan{Keep: math.MaxUint64, Torn: -1}, []string{c, b, e}},
		{disk.Plan{Keep: math.MaxUint64 - 15, Torn: -1}, []string{was, was, zeros}},
		{disk.Plan{Keep: 1, Torn: -1}, []string{a, was, zeros}},
		{disk.Plan{Keep: 2, Torn: -1}, []string{was, b, zeros}},
		{disk.Plan{Keep: 4, Torn: -1}, []string{c, was, zeros}},
		{disk.Plan{Keep: 8, Torn: -1}, []string{was, was, e}},
		{disk.Plan{Keep: 5, Torn: -1}, []string{c, was, zeros}},
		{disk.Plan{Keep: 7, Torn: -1}, []string{c, b, zeros}},
		{disk.Plan{Keep: 1 << 63, Torn: -1}, []string{was, was, zeros}},
		{disk.Plan{Torn: 0, Cut: 1}, []string{a[:1] + was[1:], was, zeros}},
		{disk.Plan{Torn: 0, Cut: 63}, []string{a[:63] + was[63:], was, zeros}},
		{disk.Plan{Torn: 0, Cut: 64}, []string{a, was, zeros}},
		{disk.Plan{Torn: 0, Cut: 65}, []string{a, was, zeros}},
		{disk.Plan{Torn: 0, Cut: math.MaxInt}, []string{a, was, zeros}},
		{disk.Plan{Torn: 0, Cut: -1}, []string{was, was, zeros}},
		{disk.Plan{Torn: 0, Cut: math.MinInt}, []string{was, was, zeros}},
		{disk.Plan{Torn: 0, Cut: 256}, []string{a, was, zeros}},
		{disk.Plan{Torn: 0, Cut: 1 << 32}, []string{a, was, zeros}},
		{disk.Plan{Keep: 1, Torn: 0, Cut: 0}, []string{was, was, zeros}},
		{disk.Plan{Keep: 1, Torn: 0, Cut: -64}, []string{was, was, zeros}},
		{disk.Plan{Keep: 15, Torn: 3, Cut: 32}, []string{c, b, e[:32] + zeros[32:]}},
		{disk.Plan{Keep: 15, Torn: 1, Cut: 7}, []string{c, b[:7] + was[7:], e}},
		{disk.Plan{Keep: 15, Torn: 2, Cut: 20}, []string{c[:20] + a[20:], b, e}},
		{disk.Plan{Keep: 14, Torn: 2, Cut: 20}, []string{c[:20] + was[20:], b, e}},
		{disk.Plan{Keep: 4, Torn: 0, Cut: 20}, []string{c, was, zeros}},
		{disk.Plan{Keep: 15, Torn: 2, Cut: 0}, []string{a, b, e}},
	}
	for _, x := range cases {
		d := made(t, 3)
		write(t, d, 0, was)
		write(t, d, 1, was)
		syncAll(t, d)
		for i, s := range []string{a, b, c, e} {
			write(t, d, []int{0, 1, 0, 2}[i], s)
		}
		crash(t, d, x.p)
		reads(t, d, x.want...)
		counts(t, d, 0, 6)
		if t.Failed() {
			t.Fatalf("plan %v", x.p)
		}
		// All of it is durable.
		write(t, d, 0, full('x'))
		write(t, d, 1, full('x'))
		write(t, d, 2, full('x'))
		crash(t, d, nothing)
		reads(t, d, x.want...)
		counts(t, d, 0, 9)
		if t.Failed() {
			t.Fatalf("a crash behind plan %v", x.p)
		}
	}
}

// P11.4: all plans for up to four writes, to each of two sectors, against the
// chapter's definition.
func TestCrashByAllPlans(t *testing.T) {
	for count := range 5 {
		for places := range 1 << count {
			y := story{sectors: 2}.with(event{kind: 'w', n: 0, s: rising(7)}).with(event{kind: 's'})
			for i := range count {
				y = y.with(event{kind: 'w', n: places >> i & 1, s: rising(byte(50 * (i + 1)))})
			}
			d := made(t, 2)
			for _, e := range y.events {
				do(t, d, e)
			}
			for keep := range uint64(1 << count) {
				for torn := -2; torn <= count+1; torn++ {
					for _, cut := range []int{-1, 0, 1, 31, 63, 64, 65} {
						p := disk.Plan{Keep: keep, Torn: torn, Cut: cut}
						f := d.Fork()
						crash(t, f, p)
						agrees(t, f, y.with(event{kind: 'c', p: p}))
						if torn == 0 && cut == 31 { // bits without a write change nothing
							g := d.Fork()
							p.Keep |= math.MaxUint64 << count
							crash(t, g, p)
							if !disk.Same(f, g) {
								t.Fatalf("plan %v of %d writes", p, count)
							}
						}
					}
				}
			}
		}
	}
}

// P11.4: a crash with nothing pending changes nothing.
func TestCrashWithNothingPending(t *testing.T) {
	plans := []disk.Plan{{}, nothing, all, {Keep: 1, Torn: 0, Cut: 64}, {Torn: 0, Cut: 32}, {Keep: math.MaxUint64, Torn: 63, Cut: 64}}
	for _, p := range plans {
		d := made(t, 2)
		crash(t, d, p)
		reads(t, d, zeros, zeros)
		counts(t, d, 0, 0)
		write(t, d, 1, rising(1))
		syncAll(t, d)
		write(t, d, 0, rising(2))
		syncAll(t, d)
		crash(t, d, p)
		crash(t, d, p)
		reads(t, d, rising(2), rising(1))
		counts(t, d, 0, 2)
	}
}

// P11.4: the bits of Keep are those of the first 64 writes.
func TestCrashOfMany(t *testing.T) {
	const count = 140
	whole := func(n int) string { return rising(byte(n + 1)) }
	d := made(t, count)
	for n := range count {
		write(t, d, n, whole(n))
	}
	next := noise(4)
	plans := []disk.Plan{all, nothing, {}}
	for _, keep := range []uint64{0, math.MaxUint64, 1, 1 << 63, 1<<63 | 1, 1 << 32, 1 << 31, next(), next()} {
		for _, torn := range []int{-1, 0, 1, 31, 32, 62, 63, 64, 65, 127, 128, count - 1, count, count + 1, math.MaxInt, math.MinInt} {
			for _, cut := range []int{0, 1, 40, 63, 64, 100} {
				plans = append(plans, disk.Plan{Keep: keep, Torn: torn, Cut: cut})
			}
		}
	}
	for _, p := range plans {
		var want []string
		for n := range count {
			kept := 0
			switch {
			case n == p.Torn:
				kept = min(p.Cut, size)
			case n < 64 && bits(p.Keep)[n]:
				kept = size
			}
			want = append(want, whole(n)[:kept]+zeros[kept:])
		}
		f := d.Fork()
		crash(t, f, p)
		reads(t, f, want...)
		counts(t, f, 0, count)
		if t.Failed() {
			t.Fatalf("plan %v", p)
		}
	}
	counts(t, d, count, count)
}

// P11.4: each single bit of Keep, and each torn write, of writes to one sector.
func TestCrashOfEachWrite(t *testing.T) {
	const count = 70
	whole := func(n int) string { return full(byte(n + 1)) }
	d := made(t, 1)
	for n := range count {
		write(t, d, 0, whole(n))
	}
	for n := range 64 {
		f := d.Fork()
		crash(t, f, disk.Plan{Keep: 1 << n, Torn: -1})
		reads(t, f, whole(n))
	}
	for n := range count {
		f := d.Fork()
		crash(t, f, disk.Plan{Torn: n, Cut: 10})
		reads(t, f, whole(n)[:10]+zeros[10:])
		want := whole(63) // the last one that is kept
		switch {
		case n == 63:
			want = whole(63)[:10] + whole(62)[10:]
		case n > 63:
			want = whole(n)[:10] + whole(63)[10:]
		}
		f = d.Fork()
		crash(t, f, disk.Plan{Keep: math.MaxUint64, Torn: n, Cut: 10})
		reads(t, f, want)
	}
}

// P11.4: a torn write between two that are kept, all of one sector.
func TestCrashTornInBetween(t *testing.T) {
	d := made(t, 2)
	write(t, d, 1, full('o'))
	syncAll(t, d)
	for _, s := range []string{"a", "b", "c"} {
		write(t, d, 1, strings.Repeat(s, size))
	}
	for cut := -1; cut <= size+1; cut++ {
		f := d.Fork()
		crash(t, f, disk.Plan{Keep: 7, Torn: 1, Cut: cut})
		reads(t, f, zeros, full('c'))
		kept := min(max(cut, 0), size)
		f = d.Fork()
		crash(t, f, disk.Plan{Keep: 3, Torn: 1, Cut: cut})
		reads(t, f, zeros, full('b')[:kept]+full('a')[kept:])
		f = d.Fork()
		crash(t, f, disk.Plan{Keep: 6, Torn: 2, Cut: cut})
		reads(t, f, zeros, full('c')[:kept]+full('b')[kept:])
		f = d.Fork()
		crash(t, f, disk.Plan{Keep: 0, Torn: 1, Cut: cut})
		reads(t, f, zeros, full('b')[:kept]+full('o')[kept:])
	}
}

// P11.4: numbers begin with 0 behind a Sync, and behind a Crash; writes that were
// refused have none.
func TestCrashNumbers(t *testing.T) {
	d := made(t, 3)
	write(t, d, 0, full('a'))
	write(t, d, 0, full('b'))
	syncAll(t, d)
	d.Write(3, full('x'))
	d.Write(2, "x")
	write(t, d, 1, full('c'))
	d.Write(-1, full('x'))
	write(t, d, 2, full('d'))
	crash(t, d, disk.Plan{Keep: 1, Torn: 1, Cut: 5})
	reads(t, d, full('b'), full('c'), full('d')[:5]+zeros[5:])
	write(t, d, 0, full('e'))
	write(t, d, 1, full('f'))
	crash(t, d, disk.Plan{Keep: 2, Torn: 0, Cut: 6})
	reads(t, d, full('e')[:6]+full('b')[6:], full('f'), full('d')[:5]+zeros[5:])
	counts(t, d, 0, 6)
}

// P11.5: a Fork is another Disk, whichever of the two is changed.
func TestFork(t *testing.T) {
	y := story{sectors: 3, events: []event{
		{kind: 'w', n: 0, s: full('a')}, {kind: 'w', n: 1, s: full('b')}, {kind: 's'},
		{kind: 'w', n: 1, s: full('c')}, {kind: 'w', n: 2, s: full('d')}, {kind: 'w', n: 1, s: full('e')},
	}}
	changes := [][]event{
		{{kind: 'w', n: 0, s: full('x')}},
		{{kind: 'w', n: 1, s: full('x')}, {kind: 'w', n: 2, s: full('y')}},
		{{kind: 's'}},
		{{kind: 'c', p: nothing}},
		{{kind: 'c', p: all}},
		{{kind: 'c', p: disk.Plan{Keep: 2, Torn: 0, Cut: 9}}},
		{{kind: 's'}, {kind: 'w', n: 0, s: full('x')}, {kind: 'w', n: 0, s: full('y')}, {kind: 'w', n: 0, s: full('z')}, {kind: 's'}},
		{{kind: 'c', p: nothing}, {kind: 'w', n: 1, s: full('x')}, {kind: 'w', n: 1, s: full('y')}, {kind: 'w', n: 2, s: full('z')}},
		{{kind: 'w', n: 0, s: full('x')}, {kind: 's'}, {kind: 'w', n: 2, s: full('y')}, {kind: 'c', p: nothing}},
	}
	ends := append(slices.Clone(changes), []event{})
	for _, change := range changes {
		for _, end := range ends {
			for _, swap := range []bool{false, true} {
				d := made(t, y.sectors)
				for _, e := range y.events {
					do(t, d, e)
				}
				f := d.Fork()
				if swap {
					d, f = f, d
				}
				agrees(t, f, y)
				changed, stayed := y, y
				for _, e := range change {
					changed = changed.with(e)
					do(t, d, e)
					agrees(t, d, changed)
					agrees(t, f, y)
				}
				for _, e := range end {
					stayed = stayed.with(e)
					do(t, f, e)
					agrees(t, f, stayed)
					agrees(t, d, changed)
				}
				e := event{kind: 'c', p: disk.Plan{Keep: 0x55, Torn: 1, Cut: 33}}
				do(t, d, e)
				do(t, f, e)
				agrees(t, d, changed.with(e))
				agrees(t, f, stayed.with(e))
			}
		}
	}
}

// P11.5: what Forks of one Disk write next does not get into the others, for any
// number of writes pending.
func TestForksOfOne(t *testing.T) {
	for count := range 70 {
		d := made(t, 1)
		for i := range count {
			write(t, d, 0, full(byte(i)))
		}
		f := d.Fork()
		g := d.Fork()
		h := f.Fork()
		disks := []*disk.Disk{f, d, h, g}
		for i, x := range disks {
			write(t, x, 0, full('w'+byte(i)))
			counts(t, x, count+1, count+1)
		}
		for i, x := range disks {
			reads(t, x, full('w'+byte(i)))
			crash(t, x, disk.Plan{Torn: count, Cut: 60})
			reads(t, x, full('w' + byte(i))[:60]+zeros[60:])
			counts(t, x, 0, count+1)
		}
	}
}

// P11.5: pending writes of a Fork stay, whatever the first Disk does with the
// memory of its own ones.
func TestForkKeepsPending(t *testing.T) {
	for _, ends := range []event{{kind: 's'}, {kind: 'c', p: nothing}} {
		for _, swap := range []bool{false, true} {
			d := made(t, 4)
			for n := range 4 {
				write(t, d, n, full('a'+byte(n)))
			}
			f := d.Fork()
			if swap {
				d, f = f, d
			}
			do(t, d, ends)
			for n := range 4 {
				write(t, d, n, full('x'))
			}
			reads(t, f, full('a'), full('b'), full('c'), full('d'))
			counts(t, f, 4, 4)
			crash(t, f, disk.Plan{Keep: 5, Torn: 3, Cut: 8})
			reads(t, f, full('a'), zeros, full('c'), full('d')[:8]+zeros[8:])
			counts(t, d, 4, 8)
		}
	}
}

// P11.5: Forks of the same Disk can be used at the same time.
func TestForksAtOnce(t *testing.T) {
	d := made(t, 8)
	for n := range 8 {
		write(t, d, n, full('a'))
	}
	var group sync.WaitGroup
	results := make([]string, 8)
	for i := range results {
		f := d.Fork()
		group.Go(func() {
			f.Write(i, full(byte(i)))
			f.Crash(disk.Plan{Keep: math.MaxUint64, Torn: 8, Cut: 32})
			results[i], _ = f.Read(i)
			f.Write(i, full('x'))
			f.Sync()
		})
	}
	for n := range 8 {
		d.Write(n, full('b'))
	}
	group.Wait()
	for i, s := range results {
		if want := full(byte(i))[:32] + full('a')[32:]; s != want {
			t.Errorf("Fork %d read %q, not %q", i, s, want)
		}
	}
	counts(t, d, 16, 16)
}

// P11.5: Same.
func TestSame(t *testing.T) {
	var none *disk.Disk
	d := made(t, 3)
	f := d.Fork()
	is := func(want bool, what string) {
		t.Helper()
		if disk.Same(d, f) != want || disk.Same(f, d) != want {
			t.Errorf("Same(%s) = %t", what, !want)
		}
		if !disk.Same(d, d) || !disk.Same(f, f) {
			t.Errorf("a Disk is not the Same as itself (%s)", what)
		}
		if disk.Same(d, none) || disk.Same(none, d) || disk.Same(nil, nil) {
			t.Errorf("Same of nil (%s)", what)
		}
	}
	is(true, "new")
	write(t, d, 2, zeros)
	is(true, "zero bytes were written")
	write(t, d, 1, full('a'))
	is(false, "a is pending")
	write(t, f, 1, full('a'))
	is(true, "a is pending in both")
	syncAll(t, d)
	is(true, "a is durable in one")
	crash(t, f, nothing)
	is(false, "a is lost in one")
	write(t, f, 1, full('a'))
	syncAll(t, f)
	is(true, "a is durable in both")
	write(t, d, 0, full('b'))
	write(t, d, 1, full('c'))
	write(t, f, 1, full('c'))
	write(t, f, 0, full('b'))
	is(true, "pending in another order")
	crash(t, d, disk.Plan{Keep: 1, Torn: -1})
	crash(t, f, disk.Plan{Keep: 1, Torn: -1})
	is(false, "other bytes are durable")
	counts(t, d, 0, 4)
	counts(t, f, 0, 4)
}

// P11.5: Same of Disks of different sizes, also with zero bytes only.
func TestSameOfSizes(t *testing.T) {
	sizes := []int{1, 2, 3, 4095, 4096}
	for _, a := range sizes {
		for _, b := range sizes {
			if got := disk.Same(made(t, a), made(t, b)); got != (a == b) {
				t.Errorf("Same of %d and %d sectors = %t", a, b, got)
			}
		}
	}
}

// P11.5: Same finds each byte of each sector.
func TestSameOfEachByte(t *testing.T) {
	d := made(t, 3)
	for n := range 3 {
		for i := range size {
			for _, durable := range []bool{false, true} {
				f := d.Fork()
				write(t, f, n, zeros[:i]+"\x01"+zeros[i+1:])
				if durable {
					syncAll(t, f)
				}
				if disk.Same(d, f) || disk.Same(f, d) {
					t.Errorf("Same overlooks byte %d of sector %d", i, n)
				}
			}
		}
	}
}

// P11.5: Same changes nothing.
func TestSameChangesNothing(t *testing.T) {
	d, f := made(t, 2), made(t, 2)
	write(t, d, 0, full('a'))
	disk.Same(d, f)
	disk.Same(d, nil)
	counts(t, d, 1, 1)
	counts(t, f, 0, 0)
	crash(t, d, nothing)
	reads(t, d, zeros, zeros)
	reads(t, f, zeros, zeros)
}

// P11.1 to P11.5: every method of a Disk that is nil, or that nobody made.
func TestNobodyMade(t *testing.T) {
	for name, d := range map[string]*disk.Disk{"nil": nil, "zero": {}, "new": new(disk.Disk)} {
		for range 2 {
			if got := d.Size(); got != 0 {
				t.Errorf("%s: Size() = %d", name, got)
			}
			for _, n := range []int{0, 1, -1, math.MaxInt, math.MinInt} {
				if s, bad := d.Read(n); s != "" || bad != api.ErrNil {
					t.Errorf("%s: Read(%d) = %q, %d", name, n, s, bad)
				}
				for _, s := range []string{full('a'), "", "a", full('a') + "a"} {
					if bad := d.Write(n, s); bad != api.ErrNil {
						t.Errorf("%s: Write(%d, %q) = %d", name, n, s, bad)
					}
				}
			}
			if got := d.Pending(); got != 0 {
				t.Errorf("%s: Pending() = %d", name, got)
			}
			if got := d.Writes(); got != 0 {
				t.Errorf("%s: Writes() = %d", name, got)
			}
			for _, p := range []disk.Plan{{}, nothing, all} {
				if bad := d.Crash(p); bad != api.ErrNil {
					t.Errorf("%s: Crash(%v) = %d", name, p, bad)
				}
			}
			if bad := d.Sync(); bad != api.ErrNil {
				t.Errorf("%s: Sync() = %d", name, bad)
			}
			if f := d.Fork(); f != nil {
				t.Errorf("%s: Fork() = %v", name, f)
			}
			if o := made(t, 1); disk.Same(d, o) || disk.Same(o, d) || disk.Same(d, nil) || disk.Same(nil, d) {
				t.Errorf("%s: Same as another one", name)
			}
		}
	}
}

// someEvent returns an event of no pattern.
func someEvent(next func() uint64, sectors int) event {
	switch next() >> 20 % 16 {
	case 0:
		return event{kind: 's'}
	case 1, 2:
		return event{kind: 'c', p: disk.Plan{
			Keep: next() | next()<<1,
			Torn: int(next()>>8%12) - 2,
			Cut:  int(next()>>8%70) - 3,
		}}
	}
	return event{kind: 'w', n: int(next() >> 12 % uint64(sectors)), s: rising(byte(next() >> 16))}
}

// P11.1 to P11.5: stories of no pattern, with Forks that go on in their own way.
func TestStories(t *testing.T) {
	next := noise(2026)
	for range 300 {
		sectors := 1 + int(next()>>8%5)
		disks, stories := []*disk.Disk{made(t, sectors)}, []story{{sectors: sectors}}
		for range 60 {
			k := int(next() >> 8 % uint64(len(disks)))
			if next()>>8%16 == 0 && len(disks) < 6 {
				disks, stories = append(disks, disks[k].Fork()), append(stories, stories[k])
				continue
			}
			e := someEvent(next, sectors)
			do(t, disks[k], e)
			stories[k] = stories[k].with(e)
			agrees(t, disks[k], stories[k])
		}
		for i, d := range disks {
			agrees(t, d, stories[i])
			durable, pending, _ := stories[i].end()
			for j, o := range disks {
				other, others, _ := stories[j].end()
				want := slices.Equal(read(durable, pending), read(other, others))
				if got := disk.Same(d, o); got != want {
					t.Fatalf("Same of Forks = %t", got)
				}
			}
		}
	}
}

// P11.1 to P11.5: the same calls have the same results.
func TestAgain(t *testing.T) {
	run := func() string {
		next := noise(5)
		d := made(t, 4)
		var b strings.Builder
		for range 500 {
			do(t, d, someEvent(next, 4))
			for n := range 4 {
				s, bad := d.Read(n)
				fmt.Fprintln(&b, s, bad, d.Pending(), d.Writes())
			}
		}
		return b.String()
	}
	if run() != run() {
		t.Error("another result of the same calls")
	}
}
