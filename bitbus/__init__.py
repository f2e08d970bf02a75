"""Bitbus: frames on one wire, heard by all alike, each just once."""
