"""The arithmetic of a floating unit of eighty bits; the calls stand in wideunit.unit."""
