"""A carpet works: dyes and colours, rooms and their strips, the carpet and its rolls."""
