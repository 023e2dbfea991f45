"""Datagrams: the sockets of one machine, which port is whose and who hears what comes."""
