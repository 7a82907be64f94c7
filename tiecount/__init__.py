"""Tiecount: webs by how many ties each point has."""
