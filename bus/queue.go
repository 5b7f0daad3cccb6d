package bus

import (
	"cmp"
	"slices"

	"fourwatch/api"
)

// within is whether a number is from 0 to a last one.
func within(n, last int) bool { return n >= 0 && n <= last }

// isLink is whether there is a link from one to the other: none leads back to its own node.
func isLink(from, to int) bool {
	return within(from, api.Nodes-1) && within(to, api.Nodes-1) && from != to
}

// own is bytes in memory of their own. No slices.Clone: of no bytes it would answer a piece of what was handed in.
func own(bytes []byte) []byte {
	return append([]byte(nil), bytes...)
}

// copied is a queue of its own, down to the bytes, so that no two buses share any.
func copied(queue []api.Parcel) []api.Parcel {
	var fresh []api.Parcel
	for _, parcel := range queue {
		parcel.Bytes = own(parcel.Bytes)
		fresh = append(fresh, parcel)
	}
	return fresh
}

// find is the place of the first parcel of a serial, or -1.
func find(queue []api.Parcel, serial int) int {
	return slices.IndexFunc(queue, func(p api.Parcel) bool { return p.Serial == serial })
}

// parted is what has come by a time, and what is still on its way, each in the queue's order.
func parted(queue []api.Parcel, now int) (come, waiting []api.Parcel) {
	for _, parcel := range queue {
		if parcel.Due <= now {
			come = append(come, parcel)
		} else {
			waiting = append(waiting, parcel)
		}
	}
	return come, waiting
}

// byDueAndSerial orders what has come. Parcels that are alike in both must stay as they lie in the queue: the sort is to be stable.
func byDueAndSerial(a, b api.Parcel) int {
	return cmp.Or(cmp.Compare(a.Due, b.Due), cmp.Compare(a.Serial, b.Serial))
}
