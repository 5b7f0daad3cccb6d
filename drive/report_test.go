package drive

import (
	"fmt"
	"hash/crc32"
	"math/rand"
	"strings"
	"testing"

	"fourwatch/api"
)

// everybody is in.
var everybody = [4]bool{true, true, true, true}

// tellOne is how a report is told.
func tellOne(r api.Report) string {
	p := begin()
	p.report(r)
	return p.told.String()
}

func TestP14_4Report(t *testing.T) {
	for _, c := range []struct {
		r    api.Report
		want string
	}{
		{api.Report{}, "node 0 frame 0 0>0 0>0 0>0 0 weak out0 out1 out2 out3\n"},
		{api.Report{Strong: true, In: everybody}, "node 0 frame 0 0>0 0>0 0>0 0\n"},
		{api.Report{In: everybody}, "node 0 frame 0 0>0 0>0 0>0 0 weak\n"},
		{api.Report{Node: 3, Frame: 1073741823, Strong: true, In: everybody}, "node 3 frame 1073741823 0>0 0>0 0>0 0\n"},
		{api.Report{Node: 1, Frame: 399, Used: [3]int{one, 2 * one, 3 * one}, Place: [3]int{4 * one, 5 * one, 6 * one}, Digest: 7, Strong: true, In: everybody}, "node 1 frame 399 1>4 2>5 3>6 7\n"},
		{api.Report{Node: 2, Frame: 10, Used: [3]int{-one, -one / 2, -1}, Place: [3]int{one / 4, -5 * one / 4, 1}, Digest: 16, Strong: true, In: everybody},
			"node 2 frame 10 -1>0.25 -0.5>-1.25 -0.00000000023283064365386962890625>0.00000000023283064365386962890625 10\n"},
		{api.Report{Used: [3]int{low, top, low + 1}, Place: [3]int{top, low, -top}, Digest: 1<<32 - 1, Strong: true, In: everybody},
			"node 0 frame 0 -2147483648>2147483647.99999999976716935634613037109375 2147483647.99999999976716935634613037109375>-2147483648 -2147483647.99999999976716935634613037109375>-2147483647.99999999976716935634613037109375 ffffffff\n"},
		{api.Report{Strong: true, In: [4]bool{true, false, true, false}}, "node 0 frame 0 0>0 0>0 0>0 0 out1 out3\n"},
		{api.Report{Digest: 0xABCDEF, In: [4]bool{false, true, true, true}}, "node 0 frame 0 0>0 0>0 0>0 abcdef weak out0\n"},
	} {
		if got := tellOne(c.r); got != c.want {
			t.Errorf("%v: %q; want %q", c.r, got, c.want)
		}
	}
}

func TestP14_4Digest(t *testing.T) {
	for digest, want := range map[int]string{
		0: "0", 1: "1", 9: "9", 10: "a", 15: "f", 16: "10", 255: "ff", 0x0AD2105E: "ad2105e", 0x1234567: "1234567", 0x89ABCDEF: "89abcdef", 1 << 31: "80000000", 1<<32 - 1: "ffffffff", top: "7fffffffffffffff",
	} {
		if got := tellOne(api.Report{Digest: digest, Strong: true, In: everybody}); got != "node 0 frame 0 0>0 0>0 0>0 "+want+"\n" {
			t.Errorf("the digest %d: %q", digest, got)
		}
	}
}

// Weak or not, with each set of nodes that are out.
func TestP14_4Out(t *testing.T) {
	for set := range 16 {
		out, in := "", [4]bool{}
		for node := range 4 {
			in[node] = set>>node&1 == 1
			if !in[node] {
				out += fmt.Sprintf(" out%d", node)
			}
		}
		head := "node 0 frame 0 0>0 0>0 0>0 0"
		if got := tellOne(api.Report{Strong: true, In: in}); got != head+out+"\n" {
			t.Errorf("%v: %q", in, got)
		}
		if got := tellOne(api.Report{In: in}); got != head+" weak"+out+"\n" {
			t.Errorf("%v, weak: %q", in, got)
		}
	}
}

func TestP14_4AnyReport(t *testing.T) {
	r := rand.New(rand.NewSource(144))
	for range 5000 {
		report := api.Report{Node: r.Intn(4), Frame: r.Intn(1 << r.Intn(31)), Digest: int(r.Uint32() >> r.Intn(32)), Strong: r.Intn(2) == 0}
		for axis := range 3 {
			report.Used[axis], report.Place[axis] = int(r.Uint64())>>r.Intn(64), int(r.Uint64())<<r.Intn(64)
		}
		for node := range 4 {
			report.In[node] = r.Intn(2) == 0
		}
		if got, want := tellOne(report), toldReport(report); got != want {
			t.Errorf("%v: %q; want %q", report, got, want)
		}
	}
}

// One report stands behind the other, and behind what was told ahead.
func TestP14_4OneBehindTheOther(t *testing.T) {
	p := begin()
	p.tell("x", "y", "\n")
	p.report(api.Report{Node: 1, Strong: true, In: everybody})
	p.report(api.Report{Node: 2, Strong: true, In: everybody})
	if got := p.told.String(); got != "xy\n"+few("frame 0 0>0 0>0 0>0 0", 1, 2) {
		t.Errorf("two reports: %q", got)
	}
}

// lost is lines behind which each computer has gone a way of its own.
func lost() []string {
	return []string{"read 0 1 0 0", "read 1 2 0 0", "read 2 3 0 0", "read 3 4 0 0", "bad 0", "frame", "frame", "bad 1", "frame", "frame", "bad 2", "frame", "bad 3", "frame"}
}

// What these scripts tell was reckoned by another program, which has all layers anew.
func TestP14_4Reckoned(t *testing.T) {
	plays(t, lines(append(lost(), "good", "frame")...), `node 1 frame 0 2.5>1.666666666977107524871826171875 0>0 0>0 43dfffeb
node 2 frame 0 2.5>1.666666666977107524871826171875 0>0 0>0 43dfffeb
node 3 frame 0 2.5>1.666666666977107524871826171875 0>0 0>0 43dfffeb
node 1 frame 1 2.5>2.5 0>0 0>0 24304f8f out0
node 2 frame 1 2.5>2.5 0>0 0>0 24304f8f out0
node 3 frame 1 2.5>2.5 0>0 0>0 24304f8f out0
node 0 frame 2 2>1.3333333334885537624359130859375 0>0 0>0 f5e19721 weak
node 2 frame 2 2>2.301886792294681072235107421875 0>0 0>0 ac6c1ccd out0
node 3 frame 2 2>2.301886792294681072235107421875 0>0 0>0 ac6c1ccd out0
node 0 frame 3 2>2 0>0 0>0 697e41b9 weak
node 2 frame 3 2>2.1103896102868020534515380859375 0>0 0>0 f321568a out0 out1
node 3 frame 3 2>2.1103896102868020534515380859375 0>0 0>0 f321568a out0 out1
node 0 frame 4 1.5>1.7641509431414306163787841796875 0>0 0>0 ad2105e weak
node 1 frame 4 2>2.301886792294681072235107421875 0>0 0>0 ac6c1ccd weak out0
node 3 frame 4 2>2.0134999998845160007476806640625 0>0 0>0 def1498d weak out0 out1
node 0 frame 5 1.5>1.582251082174479961395263671875 0>0 0>0 656330f2 weak
node 1 frame 5 1.5>1.72510822513140738010406494140625 0>0 0>0 4926945c weak out0
node 2 frame 5 1.5>1.62899999995715916156768798828125 0>0 0>0 3d702788 weak out0 out1
node 0 frame 6 2.5>2.2700000000186264514923095703125 0>0 0>0 d4e38c75 weak
node 1 frame 6 3>2.63800000003539025783538818359375 0>0 0>0 7fca2f8a weak out0
node 2 frame 6 3.5>2.9938784935511648654937744140625 0>0 0>0 4fcd1228 weak out0 out1
node 3 frame 6 3.5>3.13813813799060881137847900390625 0>0 0>0 6d1c4bdc weak out0 out1
`)
	ends := ""
	for node := range 4 {
		ends += fmt.Sprintf("read %d -2147483648 2147483647.9999999998 -0.0000000002\n", node)
	}
	plays(t, "tune 0 0 1 2147483647\n"+ends+"frame\nframe",
		four("frame 0 -2147483648>-1073741824 2147483647.99999999976716935634613037109375>1073741824 -0.00000000023283064365386962890625>0 cc45f88d")+
			four("frame 1 -2147483648>-1431655765.25 2147483647.99999999976716935634613037109375>1431655765.25 -0.00000000023283064365386962890625>0 d8b6ce81"))
}

// reckonedScript is a long script with all six words, and with lies that can't be told.
func reckonedScript(tuning string, step int) string {
	kinds, sizes := []int{1, 2, 3, 2, 5}, []int{3, 12, 1, 4, 24}
	l := []string{tuning}
	for i := range 66 {
		l = append(l, fmt.Sprintf("read %d %d.%d -%d 0.%d", i%4, i/4, i%10, i*7%5, i))
		if i%9 == 0 {
			l = append(l, fmt.Sprintf("bad %d", i/step%4))
		}
		if i%9 == 7 {
			l = append(l, "good", "")
		}
		for to := range 3 {
			phase := (i + to) % 5
			l = append(l, fmt.Sprintf("lie %d %d %d", phase, (to+i)%4, kinds[phase])+times(fmt.Sprint(i%3), sizes[phase]))
		}
		l = append(l, "frame")
	}
	return lines(l...)
}

func TestP14_4ReckonedSums(t *testing.T) {
	for _, c := range []struct {
		tuning string
		step   int
		sum    uint32
	}{
		{"", 9, 0x968DE691},
		{"", 66, 0x04DBECCB},
		{"tune 1 1 1 2000000", 9, 0xD672AA65},
		{"tune 0.25 0.5 3 9", 18, 0x1E797BE8},
		{"tune 0 0 0 0", 9, 0x09BFAE1B},
		{"tune -1 2 1000 100", 27, 0x821FE70F},
	} {
		got := checkPlay(t, reckonedScript(c.tuning, c.step))
		if n, sum := strings.Count(got, "\n"), crc32.ChecksumIEEE([]byte(got)); n != 254 || sum != c.sum {
			t.Errorf("%q, %d: %d lines, sum %08X; want 254, %08X", c.tuning, c.step, n, sum, c.sum)
		}
	}
}
