package impl

import "bytes"

const (
	SectorBytes = 64
	SectorMin   = 8
	SectorMax   = 256
	CacheMax    = 1000
	FuelMax     = 1000000
)

// endlessFuel is the Fuel of a device whose power never goes.
const endlessFuel = -1

type Pend struct {
	Sector int64
	Data   []byte
}

type Dev struct {
	Disk  []byte
	Cache []Pend
	Fuel  int64
	Dead  bool
}

type Crash struct {
	Keep []bool
	Tear int64
	At   int64
}

// sector is a sector's content as a value, so that it is copied and compared
// whole and shares no memory with the list it came from.
type sector [SectorBytes]byte

// powerLoss is what a step throws when it finds no fuel, so that a row of
// steps need not ask after each one whether the power is still there.
type powerLoss struct{}

func DevNew(n int64) Dev {
	if n < SectorMin || n > SectorMax {
		return Dev{}
	}
	return Dev{Disk: make([]byte, n*SectorBytes), Fuel: endlessFuel}
}

func ValidDev(d Dev) bool {
	if len(d.Disk)%SectorBytes != 0 || len(d.Disk) < SectorMin*SectorBytes || len(d.Disk) > SectorMax*SectorBytes {
		return false
	}
	if len(d.Cache) > CacheMax || d.Fuel < endlessFuel || d.Fuel > FuelMax {
		return false
	}
	for _, p := range d.Cache {
		if !d.hasSector(p.Sector) || len(p.Data) != SectorBytes {
			return false
		}
	}
	return true
}

func DevRead(d Dev, s int64) []byte {
	if !ValidDev(d) || !d.hasSector(s) {
		return nil
	}
	content := d.read(s)
	return content[:]
}

func DevWrite(d Dev, s int64, data []byte) Dev {
	after := copyDev(d)
	if !ValidDev(d) || d.Dead || !d.hasSector(s) || len(data) != SectorBytes || len(d.Cache) == CacheMax {
		return after
	}
	untilPowerLoss(func() { after.write(s, sectorOf(data)) })
	return after
}

func DevSync(d Dev) Dev {
	after := copyDev(d)
	if !ValidDev(d) || d.Dead {
		return after
	}
	untilPowerLoss(after.sync)
	return after
}

func DevCrash(d Dev, c Crash) Dev {
	if !ValidDev(d) {
		return Dev{}
	}
	after := Dev{Disk: bytes.Clone(d.Disk), Fuel: endlessFuel}
	for i, p := range d.Cache {
		old := after.durable(p.Sector)
		after.store(p.Sector, old.overwritten(sectorOf(p.Data), c.reach(int64(i))))
	}
	return after
}

// reach is the number of bytes of the cache's entry i that get to the disk.
func (c *Crash) reach(i int64) int64 {
	if i == c.Tear {
		return min(max(c.At, 0), SectorBytes)
	}
	if i < int64(len(c.Keep)) && c.Keep[i] {
		return SectorBytes
	}
	return 0
}

// sectorOf takes the first SectorBytes bytes of b.
func sectorOf(b []byte) sector {
	var content sector
	copy(content[:], b)
	return content
}

// overwritten is x when a write of fresh got no further than its first n bytes.
func (x sector) overwritten(fresh sector, n int64) sector {
	copy(x[:n], fresh[:n])
	return x
}

// copyDev copies every list, also of a device that is not valid.
func copyDev(d Dev) Dev {
	after := Dev{Disk: bytes.Clone(d.Disk), Fuel: d.Fuel, Dead: d.Dead}
	for _, p := range d.Cache {
		after.Cache = append(after.Cache, Pend{Sector: p.Sector, Data: bytes.Clone(p.Data)})
	}
	return after
}

// untilPowerLoss runs device steps and ends quietly if one of them finds no
// fuel; the device is then marked dead.
func untilPowerLoss(steps func()) {
	defer func() { isPowerLoss(recover()) }()
	steps()
}

// isPowerLoss tells whether a panic that was caught is the device's own, and
// lets any other go on.
func isPowerLoss(thrown any) bool {
	_, lost := thrown.(powerLoss)
	if thrown != nil && !lost {
		panic(thrown)
	}
	return lost
}

func (d *Dev) hasSector(s int64) bool {
	return s >= 0 && s < int64(len(d.Disk)/SectorBytes)
}

// burn takes the fuel of one step, ahead of anything that the step changes.
func (d *Dev) burn() {
	if d.Fuel == 0 {
		d.Dead = true
		panic(powerLoss{})
	}
	if d.Fuel != endlessFuel {
		d.Fuel--
	}
}

func (d *Dev) write(s int64, content sector) {
	d.burn()
	d.Cache = append(d.Cache, Pend{Sector: s, Data: content[:]})
}

func (d *Dev) sync() {
	d.burn()
	for _, p := range d.Cache {
		d.store(p.Sector, sectorOf(p.Data))
	}
	d.Cache = nil
}

// read sees the newest write of the sector, synced or not.
func (d *Dev) read(s int64) sector {
	for i := len(d.Cache) - 1; i >= 0; i-- {
		if d.Cache[i].Sector == s {
			return sectorOf(d.Cache[i].Data)
		}
	}
	return d.durable(s)
}

func (d *Dev) durable(s int64) sector {
	return sectorOf(d.Disk[s*SectorBytes:])
}

func (d *Dev) store(s int64, content sector) {
	copy(d.Disk[s*SectorBytes:], content[:])
}
