"""Priceblind: a store of files on one strip of disk, thrifty by every price list at once."""
