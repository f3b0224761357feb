"""Precedence at table: the calls about one house, answered by firstseat.house."""
